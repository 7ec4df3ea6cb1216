import PyProof.Rows.All
import Wide.All
import OpenK.AllK
import Wide.FinOn
import Lean
import PyProof.EqAt
import PyProof.EqKinds
import PyProof.TupleCall
import PySem.Challenge.RW_pocketmill_k39_numbers_there_and_back
set_option compiler.extract_closed false
set_option genSizeOf false
set_option bootstrap.genMatcherCode false
set_option Elab.async false
set_option linter.all false
set_option maxRecDepth 100000
open List (length_map size_toArray getElem?_map getElem?_eq_getElem mem_cons_self mem_cons_of_mem mem_append_right length_append mem_of_getElem? length_range getElem?_append_left mem_singleton length_cons mem_append getElem?_append_right mem_cons mem_append_left)
open Option (map_some)
open PySem.W (nsIn findIn Frag)
open Bool (and_eq_true)
open Nat (lt_of_lt_of_le le_refl lt_of_le_of_lt)
namespace L2
open PySem PySem.Spec PyProof.Rows
abbrev Key:=Sum Int Str
def keyIs:Key->Value->Bool
 |.inl k,v=>Value.isInt k v
 |.inr x,v=>Value.isStrOf x v
def IB (w:World):Key->Int
 |.inl k=>hashInt k
 |.inr x=>hashStr w x
theorem keyIs_shape:∀ {k:Key} {v:Value},keyIs k v=true->(∃i t,k=Sum.inl i/\v=Value.int i t)\/(∃x t,k=Sum.inr x/\v=Value.str x t)
 |.inl i,v,h=>by
  obtain⟨t,e⟩:=Value.isInt_shape (k:=i) (v:=v) h;exact .inl ⟨i,t,rfl,e⟩
 |.inr x,v,h=>by
  obtain⟨t,e⟩:=Value.isStrOf_shape (x:=x) (v:=v) h;exact .inr ⟨x,t,rfl,e⟩
theorem uB (i:Int) (t:Tok):keyIs (.inl i) (.int i t)=true:=by simp[keyIs,Value.isInt]
theorem uC (x:Str) (t:Tok):keyIs (.inr x) (.str x t)=true:=by simp[keyIs,Value.isStrOf]
theorem Cz (a b:Int):decide ((Sum.inl a:Key)=Sum.inl b)=(a==b):=by
 by_cases e:a=b
 ·subst e;simp
 ·have h:¬ (Sum.inl a:Key)=Sum.inl b:=λq=>e (Sum.inl.inj q);rw[decide_eq_false h];exact(beq_eq_false_iff_ne.mpr e).symm
theorem CA (a b:Str):decide ((Sum.inr a:Key)=Sum.inr b)=decide (a=b):=by
 by_cases e:a=b
 ·subst e;simp
 ·have h:¬ (Sum.inr a:Key)=Sum.inr b:=λq=>e (Sum.inr.inj q);rw[decide_eq_false h,decide_eq_false e]
theorem CB (a:Int) (b:Str):decide ((Sum.inl a:Key)=Sum.inr b)=false:=decide_eq_false (λq=>nomatch q)
theorem CC (a:Str) (b:Int):decide ((Sum.inr a:Key)=Sum.inl b)=false:=decide_eq_false (λq=>nomatch q)
def aS (prog:Program) (w:World):PySem.KeyKind prog w Key where
 is:=keyIs
 hash:=IB w
 inj:=λv a b ha hb=>by
  rcases keyIs_shape ha with⟨i,t,rfl,rfl⟩|⟨x,t,rfl,rfl⟩
  ·rcases keyIs_shape hb with⟨j,u,rfl,e⟩|⟨y,u,rfl,e⟩
   ·injection e with e1 _;rw[e1]
   ·exact nomatch e
  ·rcases keyIs_shape hb with⟨j,u,rfl,e⟩|⟨y,u,rfl,e⟩
   ·exact nomatch e
   ·injection e with e1 _;rw[e1]
 byValue:=λk v h=>by
  rcases keyIs_shape h with⟨i,t,rfl,rfl⟩|⟨x,t,rfl,rfl⟩<;>rfl
 pyHash:=λhv h=>by
  rcases keyIs_shape hv with⟨i,t,rfl,rfl⟩|⟨x,t,rfl,rfl⟩
  ·exact wpAny_pyHash_int h
  ·exact wpAny_pyHash_str h
 eqBool:=λhu hv h=>by
  rcases keyIs_shape hu with⟨i,t,rfl,rfl⟩|⟨x,t,rfl,rfl⟩
  ·rcases keyIs_shape hv with⟨j,u,rfl,rfl⟩|⟨y,u,rfl,rfl⟩
   ·rw[Cz]at h;exact wpAny_eqBool_int h
   ·rw[CB]at h;exact SeqAt.EqAt.int_str i t y u _ _ _ _ h
  ·rcases keyIs_shape hv with⟨j,u,rfl,rfl⟩|⟨y,u,rfl,rfl⟩
   ·rw[CC]at h;exact SeqAt.EqAt.str_int x t j u _ _ _ _ h
   ·rw[CA]at h;exact wpAny_eqBool_str h
 «strs»:=λk x t v h=>by
  rcases keyIs_shape h with⟨i,u,rfl,e⟩|⟨y,u,rfl,e⟩
  ·exact nomatch e
  ·injection e with e1 _;subst e1;cases v<;>rfl
theorem oW (prog:Program) (w:World) (i:Int) (t:Tok):(aS prog w).is (.inl i) (.int i t)=true:=uB i t
theorem oX (prog:Program) (w:World) (x:Str) (t:Tok):(aS prog w).is (.inr x) (.str x t)=true:=uC x t
inductive V where
 |non|bl (b:Bool)|int (i:Int)|str (x:Str)|byt (b:Array UInt8)|flt (b:UInt64)|ref (a:Addr)|ty (n:String)
 deriving DecidableEq
def RelV:V->Value->Prop
 |.non,u=>u=Value.none
 |.bl b,u=>u=Value.bool b
 |.int i,u=>∃t,u=Value.int i t
 |.str x,u=>∃t,u=Value.str x t
 |.byt b,u=>∃t,u=Value.bytes b t
 |.flt b,u=>∃t,u=Value.float b t
 |.ref a,u=>u=Value.ref a
 |.ty n,u=>u=Value.type n
abbrev Vals:List V->List Value->Prop:=Paired RelV
theorem Vals.length (r:Vals xs us):xs.length=us.length:=Paired.length r
theorem Vals.get:∀ {xs:List V} {us:List Value} {i:Nat} {x:V},Vals xs us->xs[i]?=some x->∃u,us[i]?=some u/\RelV x u
 |_,_,_,_,.nil,e=>by simp at e
 |_,_,0,_,.cons r _,e=>by simp at e;subst e;exact⟨_,rfl,r⟩
 |_,_,i+1,x,.cons _ t,e=>by
  obtain⟨u,h1,h2⟩:=Vals.get (i:=i) (x:=x) t (by simpa using e);exact⟨u,by simpa using h1,h2⟩
theorem Vals.append:∀ {xs ys:List V} {us ws:List Value},Vals xs us->Vals ys ws->Vals (xs++ys) (us++ws)
 |_,_,_,_,.nil,s=>s
 |_,_,_,_,.cons r t,s=>.cons r (Vals.append t s)
theorem Vals.take:∀ {xs:List V} {us:List Value} (n:Nat),Vals xs us->Vals (xs.take n) (us.take n)
 |_,_,0,_=>.nil
 |_,_,_+1,.nil=>.nil
 |_,_,n+1,.cons r t=>.cons r (Vals.take n t)
theorem Vals.drop:∀ {xs:List V} {us:List Value} (n:Nat),Vals xs us->Vals (xs.drop n) (us.drop n)
 |_,_,0,r=>r
 |_,_,_+1,.nil=>.nil
 |_,_,n+1,.cons _ t=>Vals.drop n t
def RelO:Option V->Option Value->Prop
 |some v,some u=>RelV v u
 |none,none=>True
 |_,_=>False
def KV {κ:Type}:List (κ×V)->List (κ×Value)->Prop:=Paired λ(p:κ×V) (q:κ×Value)=>p.1=q.1/\RelV p.2 q.2
def kV:Key->V
 |.inl i=>.int i
 |.inr x=>.str x
inductive HO where
 |lst (xs:List V)
 |tup (xs:List V)
 |dK (kvs:List (Key×V))|dT (kvs:List (List Key×V))
 |set (S:Int->Bool) (n:Nat)
 |ins (C dx:Addr) (fs:List (Str×V))
 |own (x:Addr)
 |xd (fs:List (Str×V))
 |met (f x:Addr)
 |rng (lo hi:Int)
 |frz (o:Obj) (u:HO)
 |tbl (ps:Array Value)
 |ext (φ:Heap->Prop)
abbrev Hp:=Addr->Option HO
def upd (H:Hp) (a:Addr) (o:HO):Hp:=λb=>if b=a then some o else H b
theorem ah:upd H a o a=some o:=by unfold upd;rw[if_pos rfl]
theorem ag (h:b≠a):upd H a o b=H b:=by unfold upd;rw[if_neg h]
theorem zN:upd (upd H a o) a u=upd H a u:=by
 funext b;unfold upd;split<;>rfl
theorem ak {H:Hp} (h:H a=some o) (h':H b=none):a≠b:=by
 intro e;subst e;rw[h]at h';cases h'
section
variable (P:Program) (w:World)
def ObjOk (H:Hp) (h:Heap) (a:Addr):HO->Prop
 |.lst xs=>xs.length<=sizeLine/\∃ (its:List Value) (n:Nat),Vals xs its/\h.get? a=some {cls:=.type "list",data:=.seq its.toArray n}
 |.tup xs=>xs.length<=sizeLine/\∃its:List Value,Vals xs its/\IsTup h a its.toArray
 |.dK kvs=>kvs.length<=sizeLine/\(a==sysModules)=false/\∃vs,KV kvs vs/\h.DictOf (aS P w) a vs
 |.dT kvs=>kvs.length<=sizeLine/\(a==sysModules)=false/\∃xs:List (List Key×Addr×Value),
  Paired (λ(p:List Key×V) (q:List Key×Addr×Value)=>p.1=q.1/\H q.2.1=some (.tup (p.1.map kV))/\RelV p.2 q.2.2) kvs xs/\
  ∃o es ep,h.get? a=some o/\o.ExactDict/\o.data=.dict es ep/\es.toList=xs.map (entryOfKey (tupleKind (aS P w)))/\(xs.map (·.1)).Nodup
 |.set S n=>h.SetOf (intKind P w) a S n
 |.ins C dx fs=>H dx=some (.own a)/\fs.length<=1000/\dx≠a/\h.get? a=some (PySem.W.instObj C dx)/\
  ∃mA,h.Ns1 dx mA/\(∀f,RelO (fs.lookup f) (mA f))/\PySem.Within mA (fs.map (·.1))
 |.own _=>∃o,h.get? a=some o
 |.xd fs=>∃mA,h.Ns1 a mA/\∀f,RelO (fs.lookup f) (mA f)
 |.rng lo hi=>∃t u v,h.get? a=some {cls:=.type "range",data:=.fields #[.int lo t,.int hi u,.int 1 v]}
 |.frz o u=>h.get? a=some o/\ObjOk H h a u
 |.tbl ps=>h.get? a=some {cls:=.none,data:=.fields ps}
 |.met f x=>h.get? a=some (PySem.W.methodObj (.ref f) (.ref x))
 |.ext φ=>φ h/\(∃o,h.get? a=some o)/\∀h1 h2:Heap,φ h1->(∀o,h1.get? a=some o->h2.get? a=some o)->φ h2
def HOk (H:Hp) (h:Heap):Prop:=∀a o,H a=some o->ObjOk P w H h a o
end
section
variable {P:Program} {w:World} {H H':Hp} {h h':Heap} {a:Addr} {o:HO}
theorem ObjOk.lt (x:ObjOk P w H h a o):a<h.objs.size:=by
 cases o with
 |lst xs=>obtain⟨_,_,_,_,e⟩:=x;exact Heap.lt_size e
 |tup xs=>obtain⟨_,_,_,p⟩:=x;exact p.lt
 |dK kvs=>obtain⟨_,_,_,_,o,_,_,e,_⟩:=x;exact Heap.lt_size e
 |dT kvs=>obtain⟨_,_,_,_,o,_,_,e,_⟩:=x;exact Heap.lt_size e
 |set S n=>obtain⟨o,_,_,_,e,_⟩:=x;exact Heap.lt_size e
 |ins C dx fs=>obtain⟨_,_,_,e,_⟩:=x;exact Heap.lt_size e
 |own y=>obtain⟨_,e⟩:=x;exact Heap.lt_size e
 |xd fs=>obtain⟨_,⟨_,_,_,e,_⟩,_⟩:=x;exact Heap.lt_size e
 |rng lo hi=>obtain⟨_,_,_,e⟩:=x;exact Heap.lt_size e
 |frz ob u=>obtain⟨e,_⟩:=x;exact Heap.lt_size e
 |tbl ps=>exact Heap.lt_size (show h.get? a=some _ from x)
 |met f y=>exact Heap.lt_size (show h.get? a=some _ from x)
 |ext φ=>obtain⟨_,⟨_,e⟩,_⟩:=x;exact Heap.lt_size e
theorem Paired.mapP:∀ {l₁:List α} {l₂:List β},Paired F l₁ l₂->(∀a b,F a b->G a b)->Paired G l₁ l₂
 |_,_,.nil,_=>.nil
 |_,_,.cons r t,f=>.cons (f _ _ r) (Paired.mapP t f)
theorem ObjOk.stay (x:ObjOk P w H h a o) (k:∀b u,(b=a\/H b=some (.own a))->h.get? b=some u->h'.get? b=some u)
  (ho:∀b,H b=some (.own a)->H' b=some (.own a)) (ht:∀b xs,H b=some (.tup xs)->H' b=some (.tup xs)):ObjOk P w H' h' a o:=by
 induction o with
 |lst xs=>obtain⟨z,its,n,r,e⟩:=x;exact⟨z,its,n,r,k _ _ (.inl rfl) e⟩
 |tup xs=>obtain⟨z,its,r,ob,e,c⟩:=x;exact⟨z,its,r,ob,k _ _ (.inl rfl) e,c⟩
 |dK kvs=>obtain⟨z,y,vs,r,ob,es,ep,e,c⟩:=x;exact⟨z,y,vs,r,ob,es,ep,k _ _ (.inl rfl) e,c⟩
 |dT kvs=>
  obtain⟨z,y,xs,r,ob,es,ep,e,c⟩:=x;exact⟨z,y,xs,Paired.mapP r λp q z=>⟨z.1,ht _ _ z.2.1,z.2.2⟩,ob,es,ep,k _ _ (.inl rfl) e,c⟩
 |set S n=>obtain⟨ob,es,ep,t,e,c⟩:=x;exact⟨ob,es,ep,t,k _ _ (.inl rfl) e,c⟩
 |ins C dx fs=>
  obtain⟨d,z,ne,e,mA,⟨od,es,ep,e2,c⟩,r⟩:=x;exact⟨ho _ d,z,ne,k _ _ (.inl rfl) e,mA,⟨od,es,ep,k _ _ (.inr d) e2,c⟩,r⟩
 |own y=>obtain⟨ob,e⟩:=x;exact⟨ob,k _ _ (.inl rfl) e⟩
 |xd fs=>obtain⟨mA,⟨od,es,ep,e,c⟩,r⟩:=x;exact⟨mA,⟨od,es,ep,k _ _ (.inl rfl) e,c⟩,r⟩
 |rng lo hi=>obtain⟨t,u,v,e⟩:=x;exact⟨t,u,v,k _ _ (.inl rfl) e⟩
 |frz ob u ih=>obtain⟨e,q⟩:=x;exact⟨k _ _ (.inl rfl) e,ih q⟩
 |tbl ps=>
  have e:h.get? a=some {cls:=.none,data:=.fields ps}:=x;show h'.get? a=some {cls:=.none,data:=.fields ps};exact k a _ (.inl rfl) e
 |met f y=>
  have e:h.get? a=some (PySem.W.methodObj (.ref f) (.ref y)):=x;show h'.get? a=some (PySem.W.methodObj (.ref f) (.ref y));exact k a _ (.inl rfl) e
 |ext φ=>obtain⟨p,⟨o,e⟩,st⟩:=x;exact⟨st _ _ p λo q=>k _ _ (.inl rfl) q,⟨o,k _ _ (.inl rfl) e⟩,st⟩
theorem HOk.lt (x:HOk P w H h) (e:H a=some o):a<h.objs.size:=(x a o e).lt
theorem HOk.fresh (x:HOk P w H h) (e:h.objs.size<=a):H a=none:=by
 cases q:H a with
 |none=>rfl
 |some u=>exact absurd (lt_of_lt_of_le (x.lt q) e) (Nat.lt_irrefl _)
theorem HOk.kept (x:HOk P w H h) (k:∀b u,h.get? b=some u->h'.get? b=some u):HOk P w H h':=λa o e=>
 (x a o e).stay (λb u _ q=>k b u q) (λ_ q=>q) λ_ _ q=>q
theorem HOk.laid (x:HOk P w H h) (k:∀b u,h.get? b=some u->h'.get? b=some u) (hp:h.objs.size<=a) (new:ObjOk P w (upd H a o) h' a o):HOk P w (upd H a o) h':=λb u e=>by
 have hn:=x.fresh hp;by_cases hb:b=a
 ·subst hb;rw[ah]at e;cases e;exact new
 ·rw[ag hb]at e;exact(x b u e).stay (λc v _ q=>k c v q) (λc q=>by rw[ag (ak q hn)];exact q) λc xs q=>by rw[ag (ak q hn)];exact q
end
def Rd (H:Hp) (a:Addr) (u:HO):Prop:=H a=some u\/∃o,H a=some (.frz o u)
theorem Rd.ok (r:Rd H a u) (x:HOk P w H h):ObjOk P w H h a u:=by
 rcases r with r|⟨o,r⟩
 ·exact x a u r
 ·obtain⟨_,q⟩:=x a _ r;exact q
def Mut:Option HO->Prop
 |some (.lst _)=>True
 |some (.dK _)=>True
 |some (.dT _)=>True
 |some (.set _ _)=>True
 |some (.ins _ _ _)=>True
 |some (.ext _)=>True
 |_=>False
section
variable {P:Program} {w:World} {H:Hp} {h h':Heap} {x e:Addr} {o':HO}
theorem HOk.write (ok:HOk P w H h) (mu:Mut (H x)) (he:e=x\/H e=some (.own x)) (k:∀b u,b≠e->h.get? b=some u->h'.get? b=some u) (heo:∃u,h'.get? e=some u)
  (new:ObjOk P w (upd H x o') h' x o'):HOk P w (upd H x o') h':=λb u q=>by
 have nown:∀c y,H c=some (.own y)->c≠x:=λc y r z=>by subst z;rw[r]at mu;exact mu
 have ntup:∀c xs,H c=some (.tup xs)->c≠x:=λc xs r z=>by subst z;rw[r]at mu;exact mu
 by_cases hb:b=x
 ·subst hb;rw[ah]at q;cases q;exact new
 ·rw[ag hb]at q;by_cases hbe:b=e
  ·have q':H b=some (.own x):=by
    rcases he with z|z
    ·exact absurd (hbe.trans z) hb
    ·rw[hbe];exact z
   rw[q]at q';cases q';obtain⟨v,hv⟩:=heo;exact⟨v,by rw[hbe];exact hv⟩
  ·refine(ok b u q).stay (λc v hc r=>k c v ?_ r) (λc r=>by rw[ag (nown c b r)];exact r) λc xs r=>by rw[ag (ntup c xs r)];exact r
   rcases hc with rfl|hc
   ·exact hbe
   ·rintro rfl;rcases he with z|z
    ·exact nown c b hc z
    ·rw[hc]at z;cases z;exact hb rfl
end
structure Un (fs ex:List Addr) (H H':Hp) (h h':Heap):Prop where
 keep:∀b o,h.get? b=some o->H b=none->b ∉ fs->b ∉ ex->h'.get? b=some o
 slot:∀b o,h.get? b=some o->H b=none->b∈fs->b ∉ ex->∃sl,h'.get? b=some {o with slots:=sl}
 free:∀b o,h.get? b=some o->H b=none->b ∉ ex->H' b=none
 there:∀b o,h.get? b=some o->b ∉ ex->∃o',h'.get? b=some o'
 tups:∀b xs,H b=some (.tup xs)->H' b=some (.tup xs)
 frzs:∀b o u,H b=some (.frz o u)->H' b=some (.frz o u)
 tbls:∀b ps,H b=some (.tbl ps)->∃more,H' b=some (.tbl (ps++more))
section
variable {fs fs' ex ex':List Addr} {H H1 H2:Hp} {h h1 h2 h':Heap} {a x e:Addr} {o:HO}
theorem Un.any (u:Un fs ex H H1 h h1) (q:h.get? b=some ob) (n:H b=none) (hx:b ∉ ex):∃sl,h1.get? b=some {ob with slots:=sl}:=by
 by_cases hb:b∈fs
 ·exact u.slot b ob q n hb hx
 ·exact⟨ob.slots,u.keep b ob q n hb hx⟩
theorem Un.kept (k:∀b u,h.get? b=some u->h'.get? b=some u):Un fs ex H H h h':=
 ⟨λb ob q _ _ _=>k b ob q,λb ob q _ _ _=>⟨ob.slots,k b ob q⟩,λ_ _ _ n _=>n,λb ob q _=>⟨ob,k b ob q⟩,λ_ _ q=>q,λ_ _ _ q=>q,λ_ ps q=>⟨#[],by rw[q];simp⟩⟩
theorem Un.refl:Un fs ex H H h h:=Un.kept λ_ _ q=>q
theorem Un.laid (k:∀b u,h.get? b=some u->h'.get? b=some u) (hp:h.objs.size<=a) (hn:H a=none):Un fs ex H (upd H a o) h h' where
 keep:=λb u q _ _ _=>k b u q
 slot:=λb u q _ _ _=>⟨u.slots,k b u q⟩
 free:=λb u q n _=>by rw[ag (Nat.ne_of_lt (lt_of_lt_of_le (Heap.lt_size q) hp))];exact n
 there:=λb u q _=>⟨u,k b u q⟩
 tups:=λb xs q=>by rw[ag (ak q hn)];exact q
 frzs:=λb u xs q=>by rw[ag (ak q hn)];exact q
 tbls:=λb ps q=>⟨#[],by rw[ag (ak q hn),q];simp⟩
theorem Un.write (mu:Mut (H x)) (he:e=x\/H e=some (.own x)) (k:∀b u,b≠e->h.get? b=some u->h'.get? b=some u) (heo:∃u,h'.get? e=some u):Un fs ex H (upd H x o) h h':=by
 have hx:∀b,H b=none->b≠x:=λb n z=>by subst z;rw[n]at mu;exact mu
 have hb:∀b,H b=none->b≠e:=λb n z=>by
  subst z;rcases he with r|r
  ·exact hx b n r
  ·rw[n]at r;cases r
 have hm:∀b u,H b=some u->¬Mut (some u)->b≠x:=λb u q nm z=>by subst z;rw[q]at mu;exact nm mu
 refine⟨λb u q n _ _=>k b u (hb b n) q,λb u q n _ _=>⟨u.slots,k b u (hb b n) q⟩,λb u q n _=>by rw[ag (hx b n)];exact n,λb u q _=>?_,
  λb xs q=>by rw[ag (hm b _ q λz=>z)];exact q,λb u xs q=>by rw[ag (hm b _ q λz=>z)];exact q,λb ps q=>⟨#[],by rw[ag (hm b _ q λz=>z),q];simp⟩⟩
 by_cases hbe:b=e
 ·subst hbe;exact heo
 ·exact⟨u,k b u hbe q⟩
end
def trk (h:Heap) (H:Hp):List Addr:=(List.range h.objs.size).filter λa=>(H a).isSome
def nK (h:Heap) (H:Hp):Heap:=PySem.W.hideAll h (trk h H)
theorem uD (h:Heap) (H:Hp):(nK h H).objs.size=h.objs.size:=PySem.W.hideAll_size _ _
theorem vM (e:h.get? b=some o) (n:H b=none):(nK h H).get? b=some o:=
 PySem.W.hideAll_get _ e λhm=>by
  have q:(H b).isSome=true:=(List.mem_filter.mp hm).2;rw[n]at q;simp at q
theorem zO (e:(nK h H).get? b=some o):h.get? b=some o/\H b=none:=by
 have e':h.get? b=some o:=PySem.W.of_hideAll (trk h H) e;refine⟨e',?_⟩;cases q:H b with
 |none=>rfl
 |some x=>
  have hm:b∈trk h H:=List.mem_filter.mpr ⟨List.mem_range.mpr (Heap.lt_size e'),by simp[q]⟩;have z:(nK h H).get? b=none:=PySem.W.hideAll_none (trk h H) hm;rw[z]at e;cases e
def zP (g h:Heap) (L:Addr):List (Addr×Obj):=(List.range h.objs.size).filterMap λa=>if a=L\/(g.get? a).isSome=true then none else(h.get? a).map λo=>(a,o)
def rest (g h:Heap) (L d:Addr):List (Addr×Obj):=(zP g h L).filter λp=>decide (p.1≠d)
structure Mod (K:Frag) (mg:Str->Option Value) (base:Heap):Prop where
 kin:K.In base
 glob:base.Ns mainGlobals mg
 blt:∃mb,base.Ns builtinsNs mb/\∀x:Str,x≠"__name__" ->mb x=bootBuiltins x
 nolimit:base.NoLimit
structure Cx where
 prog:Program
 w:World
 K:Frag
 mg:Str->Option Value
 base:Heap
 A:Around
 N:List Str
 s₀:Shared
 H₀:Hp
 env:Env
 outer:List Env
 stack:List Env
 ex:List Addr
 fn:Str->Bool
 calm:Bool
 pn:List (Addr×Obj)
 xe:Value->Shared->Prop
def frs (l:List Env):List Addr:=l.filterMap (·.frame)
abbrev Cx.fs (X:Cx):List Addr:=frs X.outer
def Vis (sc:Scope) (x:Str):Prop:=sc.names.lookup x=some .local\/sc.names.lookup x=some .cell\/sc.names.lookup x=some .free
def Loc (sc:Scope) (x:Str):Prop:=sc.names.lookup x=some .local\/sc.names.lookup x=some .cell
def IC (env:Env) (h:Heap) (m:Str->Option Value) (x:Str) (u:Value):Prop:=
 (env.kindOf x=some .local/\m x=some u)\/((env.kindOf x=some .cell\/env.kindOf x=some .free)/\∃c,env.cells.lookup x=some c/\h.IsCell c (some u))
structure Cx.Ok (X:Cx):Prop where
 mod:Mod X.K X.mg X.base
 kind:X.env.scope.kind=.function
 glob:X.env.globals=mainGlobals
 blt:X.env.builtins=builtinsNs
 above:X.s₀.heap.objs.size<=X.env.locals
 inj:∀x y c,X.env.cells.lookup x=some c->X.env.cells.lookup y=some c->x=y
 has:∀x,(X.env.kindOf x=some .cell\/X.env.kindOf x=some .free)->∃c,X.env.cells.lookup x=some c
 cab:∀x c,X.fn x=true->X.env.cells.lookup x=some c->X.s₀.heap.objs.size<=c
 hd:X.calm=true->X.A.handled=none
 frames:X.A.frames=some X.stack
 stk:X.stack=X.outer\/(X.stack=X.env::X.outer/\X.env.frame=some X.env.locals)
 exf:∀b∈X.ex,b≠X.env.locals/\∀x c,X.env.cells.lookup x=some c->c≠b
 bs:∀b o,X.base.get? b=some o->X.s₀.heap.get? b=some o/\X.H₀ b=none
 bsz:X.base.objs.size<=X.s₀.heap.objs.size
 noex:∀b o,X.base.get? b=some o->b ∉ X.ex
 exfs:∀b∈X.ex,b ∉ X.fs
 funs:X.s₀.heap.FunFrames X.base X.outer
 frf:∀b∈X.fs,X.H₀ b=none
structure Inv (X:Cx) (pins:List (Addr×Obj)) (σ:List (Option V)) (H:Hp) (s:Shared):Prop where
 ok:X.Ok
 os:s.os=X.s₀.os
 bare:AllBare s.gens
 base:Un X.fs X.ex X.H₀ H X.s₀.heap s.heap
 loc:∃m,s.heap.Ns X.env.locals m/\∀ (i:Nat) (x:Str) (v:V),X.N[i]?=some x->σ[i]?=some (some v)->Vis X.env.scope x->∃u,RelV v u/\IC X.env s.heap m x u
 cell:∀x c,X.env.cells.lookup x=some c->∃v,s.heap.IsCell c v
 free:H X.env.locals=none
 freeC:∀x c,X.env.cells.lookup x=some c->H c=none
 pin:∀p∈X.pn++pins,s.heap.get? p.1=some p.2/\H p.1=none/\p.1≠X.env.locals/\p.1 ∉ X.fs/\∀v,p.2.data≠.cell v
 hok:HOk X.prog X.w H s.heap
 len:σ.length=X.N.length
section
variable {X:Cx} {pins:List (Addr×Obj)} {σ:List (Option V)} {H H':Hp} {s:Shared} {h':Heap}
theorem Cx.Ok.nofr (ok:X.Ok) (e:X.base.get? b=some o):b ∉ X.fs:=λhb=>by
 have:=(ok.funs.mem hb).1;rw[e]at this;cases this
theorem Inv.bs (I:Inv X pins σ H s):∀b o,X.base.get? b=some o->s.heap.get? b=some o/\H b=none:=λb o e=>
 ⟨I.base.keep b o (I.ok.bs b o e).1 (I.ok.bs b o e).2 (I.ok.nofr e) (I.ok.noex b o e),I.base.free b o (I.ok.bs b o e).1 (I.ok.bs b o e).2 (I.ok.noex b o e)⟩
theorem Inv.bk (I:Inv X pins σ H s):∀b o,X.base.get? b=some o->s.heap.get? b=some o:=λb o e=>(I.bs b o e).1
theorem Inv.mod (I:Inv X pins σ H s):Mod X.K X.mg X.base:=I.ok.mod
theorem Inv.kIn (I:Inv X pins σ H s):X.K.In s.heap:=I.ok.mod.kin.keeps I.bk
theorem Inv.lt (I:Inv X pins σ H s):X.env.locals<s.heap.objs.size:=let⟨_,hn,_⟩:=I.loc;hn.lt
theorem Inv.sz (I:Inv X pins σ H s):X.s₀.heap.objs.size<=s.heap.objs.size:=Nat.le_trans I.ok.above (Nat.le_of_lt I.lt)
theorem Inv.nofs (I:Inv X pins σ H s) {a:Addr} (h:s.heap.objs.size<=a):a ∉ X.fs:=λhb=>by
 obtain⟨_,o,ho,_⟩:=I.ok.funs.mem hb;exact absurd (lt_of_lt_of_le (Heap.lt_size ho) (Nat.le_trans I.sz h)) (Nat.lt_irrefl _)
theorem Inv.cne (I:Inv X pins σ H s):∀x c,X.env.cells.lookup x=some c->c≠X.env.locals:=λx c e z=>by
 obtain⟨v,o,ho,hd⟩:=I.cell x c e;obtain⟨m,⟨o',es,ep,ho',hd',_⟩,_⟩:=I.loc;rw[z,ho']at ho;cases ho;rw[hd']at hd;cases hd
theorem Inv.funs (I:Inv X pins σ H s):s.heap.FunFrames X.base X.outer:=by
 have all:∀ (l:List Env),(∀b∈frs l,b∈X.fs)->X.s₀.heap.FunFrames X.base l->s.heap.FunFrames X.base l:=by
  intro l;induction l with
  |nil=>intro _ _;trivial
  |cons env r ih=>
   intro hs hl;obtain⟨hk,⟨L,o,hf,hn,ho,hd⟩,hr⟩:=hl;have hL:L∈X.fs:=hs L (by unfold frs;rw[List.filterMap_cons,hf];exact mem_cons_self);obtain⟨sl,e⟩:=I.base.slot L o ho (I.ok.frf L hL) hL λz=>I.ok.exfs L z hL;exact⟨hk,⟨L,_,hf,hn,e,hd⟩,ih (λb hb=>hs b (by unfold frs;rw[List.filterMap_cons,hf];exact mem_cons_of_mem _ hb)) hr⟩
 exact all X.outer (λ_ hb=>hb) I.ok.funs
theorem Inv.stack (I:Inv X pins σ H s):s.heap.FunFrames X.base X.stack:=by
 rcases I.ok.stk with e|⟨e,hf⟩
 ·rw[e];exact I.funs
 ·rw[e];obtain⟨m,hn,_⟩:=I.loc;refine .cons (by rw[I.ok.kind];decide) hf hn ?_ I.funs;exact Heap.get?_none_of_le (Nat.le_trans I.ok.bsz I.ok.above)
theorem Inv.stkSub (I:Inv X pins σ H s):∀b∈frs X.stack,b∈X.env.locals::X.fs:=λb hb=>by
 rcases I.ok.stk with e|⟨e,hf⟩
 ·rw[e]at hb;exact mem_cons_of_mem _ hb
 ·rw[e]at hb;unfold frs at hb;rw[List.filterMap_cons,hf]at hb;exact hb
theorem Inv.stkFree (I:Inv X pins σ H s):∀b∈frs X.stack,H b=none:=λb hb=>by
 rcases mem_cons.mp (I.stkSub b hb)with e|hb
 ·rw[e];exact I.free
 ·obtain⟨_,o,ho,_⟩:=I.ok.funs.mem hb;exact I.base.free b o ho (I.ok.frf b hb) λz=>I.ok.exfs b z hb
theorem Inv.step {ch:List Addr} (I:Inv X pins σ H s) (hch:∀b∈ch,(b∈X.ex\/X.s₀.heap.objs.size<=b)/\b≠X.env.locals/\(∀x c,X.env.cells.lookup x=some c->c≠b)/\∀p∈X.pn++pins,p.1≠b) (keep:∀b o,b≠X.env.locals->b ∉ X.fs->b ∉ ch->s.heap.get? b=some o->H b=none->h'.get? b=some o) (slot:∀b o,b≠X.env.locals->b∈X.fs->b ∉ ch->s.heap.get? b=some o->H b=none->∃sl,h'.get? b=some {o with slots:=sl}) (free:∀b o,b ∉ ch->s.heap.get? b=some o->H b=none->H' b=none) (there:∀b o,b ∉ ch->s.heap.get? b=some o->∃o',h'.get? b=some o') (tups:∀b xs,H b=some (.tup xs)->H' b=some (.tup xs)) (frzs:∀b o u,H b=some (.frz o u)->H' b=some (.frz o u)) (tbls:∀b ps,H b=some (.tbl ps)->∃more,H' b=some (.tbl (ps++more))) (ns:∀m,s.heap.Ns X.env.locals m->h'.Ns X.env.locals m) (hok:HOk X.prog X.w H' h') (hg:AllBare g'):
  Inv X pins σ H' {s with heap:=h',gens:=g',drawn:=d',toks:=t'}:=by
 have neL:∀b o,X.s₀.heap.get? b=some o->b≠X.env.locals:=λb o e=>Nat.ne_of_lt (lt_of_lt_of_le (Heap.lt_size e) I.ok.above)
 have neC:∀b o,X.s₀.heap.get? b=some o->b ∉ X.ex->b ∉ ch:=λb o e hx hb=>by
  rcases(hch b hb).1 with z|z
  ·exact hx z
  ·exact absurd (lt_of_lt_of_le (Heap.lt_size e) z) (Nat.lt_irrefl _)
 have cellK:∀x c,X.env.cells.lookup x=some c->∀v,s.heap.IsCell c v->h'.IsCell c v:=λx c e v ⟨o,ho,hd⟩=>by
  have nch:c ∉ ch:=λz=>(hch c z).2.2.1 x c e rfl;by_cases hc:c∈X.fs
  ·obtain⟨sl,q⟩:=slot c o (I.cne x c e) hc nch ho (I.freeC x c e);exact⟨_,q,hd⟩
  ·exact⟨o,keep c o (I.cne x c e) hc nch ho (I.freeC x c e),hd⟩
 refine⟨I.ok,I.os,hg,⟨λb o e n hb hx=>?_,λb o e n hb hx=>?_,λb o e n hx=>?_,λb o e hx=>?_,λb xs e=>tups b xs (I.base.tups b xs e),λb o xs e=>frzs b o xs (I.base.frzs b o xs e),λb ps e=>?_⟩,?_,λx c e=>?_,?_,λx c e=>?_,λp hp=>?_,hok,I.len⟩
 ·exact keep b o (neL b o e) hb (neC b o e hx) (I.base.keep b o e n hb hx) (I.base.free b o e n hx)
 ·obtain⟨sl,e1⟩:=I.base.slot b o e n hb hx;obtain⟨sl',e2⟩:=slot b _ (neL b o e) hb (neC b o e hx) e1 (I.base.free b o e n hx);exact⟨sl',e2⟩
 ·obtain⟨o',e1⟩:=I.base.there b o e hx;exact free b o' (neC b o e hx) e1 (I.base.free b o e n hx)
 ·obtain⟨o',e1⟩:=I.base.there b o e hx;exact there b o' (neC b o e hx) e1
 ·obtain⟨m1,e1⟩:=I.base.tbls b ps e;obtain⟨m2,e2⟩:=tbls b _ e1;exact⟨m1++m2,by rw[e2,Array.append_assoc]⟩
 ·obtain⟨m,hn,hl⟩:=I.loc;refine⟨m,ns m hn,λi x v e1 e2 e3=>?_⟩;obtain⟨u,r,l⟩:=hl i x v e1 e2 e3;refine⟨u,r,?_⟩;rcases l with l|⟨k,c,e,z⟩
  ·exact .inl l
  ·exact .inr ⟨k,c,e,cellK x c e _ z⟩
 ·obtain⟨v,z⟩:=I.cell x c e;exact⟨v,cellK x c e v z⟩
 ·obtain⟨m,⟨o,_,_,ho,_⟩,_⟩:=I.loc;exact free _ o (λz=>(hch _ z).2.1 rfl) ho I.free
 ·obtain⟨v,o,ho,hd⟩:=I.cell x c e;exact free c o (λz=>(hch c z).2.2.1 x c e rfl) ho (I.freeC x c e)
 ·obtain⟨e,n,ne,nf,d⟩:=I.pin p hp;have nch:p.1 ∉ ch:=λz=>(hch p.1 z).2.2.2 p hp rfl;exact⟨keep p.1 p.2 ne nf nch e n,free p.1 p.2 nch e n,ne,nf,d⟩
theorem Inv.un (I:Inv X pins σ H s) (u:Un X.fs [] H H' s.heap h') (hok:HOk X.prog X.w H' h'):Inv X pins σ H' {s with heap:=h',toks:=t'}:=by
 obtain⟨m,⟨o,es,ep,ho,r⟩,_⟩:=id I.loc;obtain⟨sl,hL⟩:=u.any ho I.free (by simp);exact I.step (g':=s.gens) (d':=s.drawn) (ch:=[]) (λ_ z=>nomatch z) (λb o _ hb _ e n=>u.keep b o e n hb (by simp)) (λb o _ hb _ e n=>u.slot b o e n hb (by simp)) (λb o _ e n=>u.free b o e n (by simp)) (λb o _ e=>u.there b o e (by simp)) u.tups u.frzs u.tbls (λm' hm=>by
  obtain⟨o',es',ep',ho',r'⟩:=hm;rw[ho]at ho';cases ho';exact⟨_,es',ep',hL,r'⟩) hok I.bare
theorem Inv.call (I:Inv X pins σ H s) (u:Un (frs X.stack) ch H H' s.heap h') (hok:HOk X.prog X.w H' h') (hg:AllBare g') (hch:∀b∈ch,(b∈X.ex\/X.s₀.heap.objs.size<=b)/\b≠X.env.locals/\(∀x c,X.env.cells.lookup x=some c->c≠b)/\∀p∈X.pn++pins,p.1≠b):
  Inv X pins σ H' {s with heap:=h',gens:=g',drawn:=d',toks:=t'}:=by
 obtain⟨m,⟨o,es,ep,ho,r⟩,_⟩:=id I.loc
 obtain⟨sl,hL⟩:=u.any ho I.free λz=>(hch _ z).2.1 rfl
 exact I.step (ch:=ch) hch (λb o hL hb hc e n=>u.keep b o e n (λz=>(mem_cons.mp (I.stkSub b z)).elim hL hb) hc) (λb o _ _ hc e n=>u.any e n hc) (λb o hc e n=>u.free b o e n hc) (λb o hc e=>u.there b o e hc) u.tups u.frzs u.tbls (λm' hm=>by
  obtain⟨o',es',ep',ho',r'⟩:=hm;rw[ho]at ho';cases ho';exact⟨_,es',ep',hL,r'⟩) hok hg
theorem Inv.turned (I:Inv X pins σ H s) (k:∀b o,b≠it->s.heap.get? b=some o->h'.get? b=some o) (hn:H it=none) (hL:it≠X.env.locals) (h1:it∈X.ex\/X.s₀.heap.objs.size<=it) (h2:∀x c,X.env.cells.lookup x=some c->c≠it) (h3:∀p∈X.pn++pins,p.1≠it):Inv X pins σ H {s with heap:=h',toks:=t'}:=by
 have nit:∀b u,H b=some u->b≠it:=λb u e z=>by rw[z,hn]at e;cases e
 refine I.step (g':=s.gens) (d':=s.drawn) (ch:=[it]) (λb hb=>?_) (λb o _ _ hc e _=>k b o (λz=>hc (by simp[z])) e) (λb o _ _ hc e _=>⟨o.slots,k b o (λz=>hc (by simp[z])) e⟩) (λ_ _ _ _ n=>n)
  (λb o hc e=>⟨o,k b o (λz=>hc (by simp[z])) e⟩) (λ_ _ e=>e) (λ_ _ _ e=>e) (λb ps e=>⟨#[],by rw[e];simp⟩) (λm hm=>?_) (λb u e=>?_) I.bare
 ·have e:b=it:=by simpa using hb
  subst e;exact⟨h1,hL,h2,h3⟩
 ·obtain⟨o,es,ep,ho,r⟩:=hm;exact⟨o,es,ep,k _ o (Ne.symm hL) ho,r⟩
 ·refine(I.hok b u e).stay (λc v hc q=>k c v ?_ q) (λ_ q=>q) λ_ _ q=>q;rcases hc with z|z
  ·rw[z];exact nit b u e
  ·exact nit c _ z
theorem Inv.tok (I:Inv X pins σ H s) (t:Nat):Inv X pins σ H {s with toks:=t}:=I.un (h':=s.heap) (t':=t) Un.refl I.hok
theorem Inv.kept (I:Inv X pins σ H s) (k:∀b u,s.heap.get? b=some u->h'.get? b=some u):Inv X pins σ H {s with heap:=h',toks:=t'}:=I.un (Un.kept k) (I.hok.kept k)
theorem Inv.laid {a:Addr} (I:Inv X pins σ H s) (k:∀b u,s.heap.get? b=some u->h'.get? b=some u) (hp:s.heap.objs.size<=a) (new:ObjOk X.prog X.w (upd H a o) h' a o):
 Inv X pins σ (upd H a o) {s with heap:=h',toks:=t'}:=I.un (Un.laid k hp (I.hok.fresh hp)) (I.hok.laid k hp new)
theorem Inv.write (I:Inv X pins σ H s) (mu:Mut (H x)) (he:e=x\/H e=some (.own x)) (k:∀b u,b≠e->s.heap.get? b=some u->h'.get? b=some u) (heo:∃u,h'.get? e=some u) (new:ObjOk X.prog X.w (upd H x o) h' x o):Inv X pins σ (upd H x o) {s with heap:=h',toks:=t'}:=I.un (Un.write mu he k heo) (I.hok.write mu he k heo new)
theorem Inv.weak (I:Inv X pins σ H s) (hl:σ'.length=σ.length) (w:∀ (i:Nat) v,σ'[i]?=some (some v)->σ[i]?=some (some v)):Inv X pins σ' H s:=
 ⟨I.ok,I.os,I.bare,I.base,let⟨m,hn,hl'⟩:=I.loc;⟨m,hn,λi x v e1 e2 e3=>hl' i x v e1 (w i v e2) e3⟩,I.cell,I.free,I.freeC,I.pin,I.hok,hl.trans I.len⟩
theorem Inv.pins_of (I:Inv X pins σ H s) (h:∀p∈pins',s.heap.get? p.1=some p.2/\H p.1=none/\p.1≠X.env.locals/\p.1 ∉ X.fs/\∀v,p.2.data≠.cell v):Inv X pins' σ H s:=
 ⟨I.ok,I.os,I.bare,I.base,I.loc,I.cell,I.free,I.freeC,λp hp=>(mem_append.mp hp).elim (λz=>I.pin p (mem_append_left _ z)) (h p),I.hok,I.len⟩
theorem oY {N:List Str} (hN:N.Nodup) {i j:Nat} (a:N[i]?=some x) (b:N[j]?=some x):i=j:=by
 obtain⟨h1,e1⟩:=List.getElem?_eq_some_iff.mp a;obtain⟨h2,e2⟩:=List.getElem?_eq_some_iff.mp b;exact(List.getElem_inj hN).mp (e1.trans e2.symm)
theorem mR (I:Inv X pins σ H s) (hN:X.N.Nodup) (hi:X.N[i]?=some x) (hx:Loc X.env.scope x) (r:RelV v u) (h:∀s',Inv X pins (σ.set i (some v)) H s'->(∃a,Heap.SameBut a s.heap s'.heap/\(a=X.env.locals\/X.env.cells.lookup x=some a))->Q () s') (hf:X.fn x=true\/X.env.scope.names.lookup x=some .local:=by first|exact .inl rfl|exact .inr rfl|assumption):wpAny M A (storeName X.env x u) Q E s:=by
 obtain⟨m,hn,hl⟩:=id I.loc;have hcls:(X.env.scope.kind==.class||(X.env.scope.kind==.module&&X.env.locals !=X.env.globals))=false:=by rw[I.ok.kind];rfl
 have hiσ:i<σ.length:=by rw[I.len];exact(List.getElem?_eq_some_iff.mp hi).1
 have cne:=I.cne;have tracked:∀ {a:Addr} {h':Heap},(∃o,s.heap.get? a=some o/\H a=none)->Heap.SameBut a s.heap h'->HOk X.prog X.w H h':=λ{a h'} ha hs b ob e=>by
  obtain⟨_,_,hfree⟩:=ha;refine(I.hok b ob e).stay (λc w' hc q=>(hs.2 c ?_).trans q) (λ_ q=>q) λ_ _ q=>q;rintro rfl;rcases hc with rfl|hc
  ·rw[hfree]at e;cases e
  ·rw[hfree]at hc;cases hc
 rcases hx with hk|hk
 ·refine wpAny_storeName_local hk hn (λh' hn' hs=>?_) hcls;obtain⟨oL,_,_,hoL,_⟩:=id hn;refine h _ ⟨I.ok,I.os,I.bare,⟨λb o e n hb hx=>?_,λb o e n hb hx=>?_,I.base.free,λb o e hx=>?_,I.base.tups,I.base.frzs,I.base.tbls⟩,⟨_,hn',λj y v' e1 e2 e3=>?_⟩,λy c e=>?_,I.free,I.freeC,λp hp=>?_,tracked ⟨oL,hoL,I.free⟩ hs,by simpa using I.len⟩ ⟨_,hs,.inl rfl⟩
  ·exact(hs.2 b (Nat.ne_of_lt (lt_of_lt_of_le (Heap.lt_size e) I.ok.above))).trans (I.base.keep b o e n hb hx)
  ·obtain⟨sl,e1⟩:=I.base.slot b o e n hb hx;exact⟨sl,(hs.2 b (Nat.ne_of_lt (lt_of_lt_of_le (Heap.lt_size e) I.ok.above))).trans e1⟩
  ·obtain⟨o',e1⟩:=I.base.there b o e hx;exact⟨o',(hs.2 b (Nat.ne_of_lt (lt_of_lt_of_le (Heap.lt_size e) I.ok.above))).trans e1⟩
  ·by_cases hj:j=i
   ·subst hj;rw[hi]at e1;cases e1;rw[List.getElem?_set_self hiσ]at e2;cases e2;exact⟨u,r,.inl ⟨hk,by simp⟩⟩
   ·rw[List.getElem?_set_ne (Ne.symm hj)]at e2;obtain⟨u',r',q⟩:=hl j y v' e1 e2 e3;refine⟨u',r',?_⟩;rcases q with⟨k,e⟩|⟨k,c,e,z⟩
    ·refine .inl ⟨k,?_⟩;have:y≠x:=λe=>hj (oY hN e1 (e▸hi));simp[this,e]
    ·exact .inr ⟨k,c,e,z.sameBut hs (cne y c e)⟩
  ·obtain⟨w',z⟩:=I.cell y c e;exact⟨w',z.sameBut hs (cne y c e)⟩
  ·obtain⟨e,n,ne,nf,d⟩:=I.pin p hp;exact⟨(hs.2 p.1 ne).trans e,n,ne,nf,d⟩
 ·have hfn:X.fn x=true:=by
   rcases hf with z|z
   ·exact z
   ·rw[z]at hk;cases hk
  obtain⟨c,hc⟩:=I.ok.has x (.inl hk);obtain⟨w',z⟩:=I.cell x c hc;refine wpAny_storeName_cell I.ok.kind hk hc z (λh' hc' hs=>?_);obtain⟨oc,hoc,hocd⟩:=id z;refine h {s with heap:=h'} ⟨I.ok,I.os,I.bare,⟨λb o e n hb hx=>?_,λb o e n hb hx=>?_,I.base.free,λb o e hx=>?_,I.base.tups,I.base.frzs,I.base.tbls⟩,⟨m,hn.sameBut hs (Ne.symm (cne x c hc)),λj y v' e1 e2 e3=>?_⟩,λy c' e=>?_,I.free,I.freeC,λp hp=>?_,tracked ⟨oc,hoc,I.freeC x c hc⟩ hs,by simpa using I.len⟩ ⟨c,hs,.inr hc⟩
  ·exact(hs.2 b (Nat.ne_of_lt (lt_of_lt_of_le (Heap.lt_size e) (I.ok.cab x c hfn hc)))).trans (I.base.keep b o e n hb hx)
  ·obtain⟨sl,e1⟩:=I.base.slot b o e n hb hx;exact⟨sl,(hs.2 b (Nat.ne_of_lt (lt_of_lt_of_le (Heap.lt_size e) (I.ok.cab x c hfn hc)))).trans e1⟩
  ·obtain⟨o',e1⟩:=I.base.there b o e hx;exact⟨o',(hs.2 b (Nat.ne_of_lt (lt_of_lt_of_le (Heap.lt_size e) (I.ok.cab x c hfn hc)))).trans e1⟩
  ·by_cases hj:j=i
   ·subst hj;rw[hi]at e1;cases e1;rw[List.getElem?_set_self hiσ]at e2;cases e2;exact⟨u,r,.inr ⟨.inl hk,c,hc,hc'⟩⟩
   ·rw[List.getElem?_set_ne (Ne.symm hj)]at e2;obtain⟨u',r',q⟩:=hl j y v' e1 e2 e3;refine⟨u',r',?_⟩;rcases q with q|⟨k,c',e,z'⟩
    ·exact .inl q
    ·refine .inr ⟨k,c',e,z'.sameBut hs ?_⟩;rintro rfl;exact hj (oY hN e1 (I.ok.inj _ _ _ e hc▸hi))
  ·by_cases hcc:c'=c
   ·subst hcc;exact⟨_,hc'⟩
   ·obtain⟨w2,z2⟩:=I.cell y c' e;exact⟨w2,z2.sameBut hs hcc⟩
  ·obtain⟨e,n,ne,nf,d⟩:=I.pin p hp;refine⟨(hs.2 p.1 ?_).trans e,n,ne,nf,d⟩;intro q;rw[q,hoc]at e;have q':oc=p.2:=Option.some.inj e;exact d w' (by rw[<-q'];exact hocd)
theorem oZ (I:Inv X pins σ H s) (hN:X.N.Nodup) (hi:X.N[i]?=some x) (hx:Loc X.env.scope x) (r:RelV v u) (h:∀s',Inv X pins (σ.set i (some v)) H s'->Q () s') (hf:X.fn x=true\/X.env.scope.names.lookup x=some .local:=by first|exact .inl rfl|exact .inr rfl|assumption):wpAny M A (storeName X.env x u) Q E s:=
 mR I hN hi hx r (λs' I' _=>h s' I') hf
theorem Inv.call' (I:Inv X pins σ H s) (ho:s'.os=s.os) (u:Un (frs X.stack) ch H H' s.heap s'.heap) (hok:HOk X.prog X.w H' s'.heap) (hg:AllBare s'.gens) (hch:∀b∈ch,(b∈X.ex\/X.s₀.heap.objs.size<=b)/\b≠X.env.locals/\(∀x c,X.env.cells.lookup x=some c->c≠b)/\∀p∈X.pn++pins,p.1≠b):Inv X pins σ H' s':=by
 obtain⟨h',g',d',t',o'⟩:=s';have e:o'=s.os:=ho;subst e;exact I.call (g':=g') (t':=t') (d':=d') u hok hg hch
end
abbrev XK:=Value->Option Addr->Hp->Prop
abbrev St:=List (Option V)
abbrev VK:=V->Hp->Prop
abbrev TE:=St->Hp->VK->Prop
abbrev TT:=St->Hp->(Bool->Hp->Prop)->Prop
abbrev TA:=St->Hp->(List V->Hp->Prop)->Prop
structure Ends where
 nx:St->Hp->Prop
 rt:VK
 bk:St->Hp->Prop:=λ_ _=>False
 ct:St->Hp->Prop:=λ_ _=>False
abbrev TS:=Ends->St->Hp->Prop
def EP (X:Cx) (pins:List (Addr×Obj)) (σ:St) (Q:VK) (u:Value) (s':Shared):Prop:=∃v H',Inv X pins σ H' s'/\RelV v u/\Q v H'
def TP (X:Cx) (pins:List (Addr×Obj)) (σ:St) (Q:Bool->Hp->Prop) (b:Bool) (s':Shared):Prop:=∃H',Inv X pins σ H' s'/\Q b H'
def AP (X:Cx) (pins:List (Addr×Obj)) (σ:St) (Q:List V->Hp->Prop) (us:List Value) (s':Shared):Prop:=∃vs H',Inv X pins σ H' s'/\Vals vs us/\Q vs H'
def SP (X:Cx) (pins:List (Addr×Obj)) (D:Ends) (f:Flow) (s':Shared):Prop:=
 match f with
 |.next=>∃σ' H',Inv X pins σ' H' s'/\D.nx σ' H'
 |.brk=>∃σ' H',Inv X pins σ' H' s'/\D.bk σ' H'
 |.cont=>∃σ' H',Inv X pins σ' H' s'/\D.ct σ' H'
 |.ret u=>∃v σ' H',Inv X pins σ' H' s'/\RelV v u/\D.rt v H'
def PE (X:Cx) (e:Expr) (t:TE):Prop:=
 ∀ (pins:List (Addr×Obj)) (s:Shared) (σ:St) (H:Hp) (Q:VK),Inv X pins σ H s->t σ H Q->wpAny (model X.prog X.w) X.A (eval e X.env) (EP X pins σ Q) X.xe s
def PT (X:Cx) (e:Expr) (t:TT):Prop:=
 ∀ (pins:List (Addr×Obj)) (s:Shared) (σ:St) (H:Hp) (Q:Bool->Hp->Prop),Inv X pins σ H s->t σ H Q->wpAny (model X.prog X.w) X.A (isTrue e X.env (eval e X.env)) (TP X pins σ Q) X.xe s
def PW (X:Cx) (e:Expr) (t:TT):Prop:=
 ∀ (whole:Sem Value) (pins:List (Addr×Obj)) (s:Shared) (σ:St) (H:Hp) (Q:Bool->Hp->Prop),Inv X pins σ H s->t σ H Q->wpAny (model X.prog X.w) X.A (isTrue e X.env whole) (TP X pins σ Q) X.xe s
theorem PW.pt (h:PW X e t):PT X e t:=h _
def PA (X:Cx) (es:List Expr) (t:TA):Prop:=
 ∀ (pos:Pos) (pins:List (Addr×Obj)) (s:Shared) (σ:St) (H:Hp) (Q:List V->Hp->Prop),Inv X pins σ H s->t σ H Q->wpAny (model X.prog X.w) X.A (spliced (backTo pos (starEach es X.env))) (AP X pins σ Q) X.xe s
def PS (X:Cx) (st:Stmt) (t:TS):Prop:=
 ∀ (pins:List (Addr×Obj)) (s:Shared) (σ:St) (H:Hp) (D:Ends),Inv X pins σ H s->t D σ H->wpAny (model X.prog X.w) X.A (exec st X.env) (SP X pins D) X.xe s
def PSs (X:Cx) (st:List Stmt) (t:TS):Prop:=
 ∀ (pins:List (Addr×Obj)) (s:Shared) (σ:St) (H:Hp) (D:Ends),Inv X pins σ H s->t D σ H->wpAny (model X.prog X.w) X.A (execs st X.env) (SP X pins D) X.xe s
theorem thn {Q Q':α->Shared->Prop} (h:wpAny M A t Q E s) (hQ:∀a s,Q a s->Q' a s):wpAny M A t Q' E s:=wpAny_mono h hQ λ_ _ x=>x
section
variable {X:Cx}
def ID (i:Nat):TE:=λσ H Q=>∃v,σ[i]?=some (some v)/\Q v H
def tC (v:V):TE:=λ_ H Q=>Q v H
theorem bO {pos} (hN:X.N[i]?=some x) (hv:Vis X.env.scope x) (hd:(x==("__debug__":Str))=false:=by decide) (hcd:(x==("__classdict__":Str))=false:=by decide):PE X (.Name x pos) (ID i):=by
 intro pins s σ H Q I h;obtain⟨v,e,h⟩:=h;obtain⟨m,hn,hl⟩:=I.loc;obtain⟨u,r,l⟩:=hl i x v hN e hv;have fin:EP X pins σ Q u s:=⟨v,H,I,r,h⟩;rcases l with⟨hk,hm⟩|⟨hk,c,hc,hcell⟩
 ·exact wpAny_Name (wpAny_loadName_local I.ok.kind hk hn hm fin) hd
 ·rcases hk with hk|hk
  ·exact wpAny_Name (wpAny_loadName_cell I.ok.kind hk hc hcell fin) hd
  ·exact wpAny_Name (wpAny_loadName_free I.ok.kind hk hc hcell fin hcd) hd
theorem pe_int:PE X (.Constant (.int i) j pos) (tC (.int i)):=λ_ _ _ H _ I h=>wpAny_Constant_int ⟨.int i,H,I.tok _,⟨_,rfl⟩,h⟩
theorem pe_bl:PE X (.Constant (.bool b) j pos) (tC (.bl b)):=λ_ _ _ H _ I h=>Constant_bool ⟨.bl b,H,I,rfl,h⟩
theorem pe_non:PE X (.Constant .none j pos) (tC .non):=λ_ _ _ H _ I h=>Constant_none ⟨.non,H,I,rfl,h⟩
theorem pe_str:PE X (.Constant (.str x) j pos) (tC (.str x)):=λ_ _ _ H _ I h=>Calls.Constant_str ⟨.str x,H,I.tok _,⟨_,rfl⟩,h⟩
def Gl (X:Cx) (x:Str):Prop:=X.env.kindOf x=some .globalImplicit
theorem nL {σ:St} (I:Inv X pins σ H s) (hg:Gl X x) (hm:X.mg x=some u) (h:Q u s) (hd:(x==("__debug__":Str))=false:=by decide):wpAny (model X.prog X.w) X.A (eval (.Name x pos) X.env) Q E s:=
 Calls.Name_function_global I.ok.kind hg (Calls.loadGlobal_global (by rw[I.ok.glob];exact I.mod.glob.keeps I.bk) hm h) hd
theorem gp {E} {σ:St} {pos} (I:Inv X pins σ H s) (hg:Gl X x) (hm:X.mg x=none) (hv:bootBuiltins x=some u) (h:Q u s) (hn:x≠"__name__":=by decide) (hd:(x==("__debug__":Str))=false:=by decide):wpAny (model X.prog X.w) X.A (eval (.Name x pos) X.env) Q E s:=by
 obtain⟨mb,h1,h2⟩:=I.mod.blt;exact Calls.Name_function_global I.ok.kind hg (Calls.loadGlobal_builtin (by rw[I.ok.glob];exact I.mod.glob.keeps I.bk) hm (by rw[I.ok.blt];exact h1.keeps I.bk) ((h2 x hn).trans hv) h) hd
theorem zQ (hg:Gl X x) (hm:X.mg x=some u) (r:RelV v u) (hd:(x==("__debug__":Str))=false:=by decide):PE X (.Name x pos) (tC v):=
 λ_ _ _ H _ I h=>nL I hg hm ⟨v,H,I,r,h⟩ hd
theorem zR {pos} (hg:Gl X x) (hm:X.mg x=none) (hv:bootBuiltins x=some u) (r:RelV v u) (hn:x≠"__name__":=by decide) (hd:(x==("__debug__":Str))=false:=by decide):PE X (.Name x pos) (tC v):=
 λ_ _ _ H _ I h=>gp I hg hm hv ⟨v,H,I,r,h⟩ hn hd
variable {a b:Expr} {ta tb:TE} {pos:Pos}
variable {tA tB':TT} {rest:List Expr}
def IE (t u:TT):TT:=λσ H Q=>t σ H λc H1=>if c=true then u σ H1 Q else Q false H1
def tOr (t u:TT):TT:=λσ H Q=>t σ H λc H1=>if c=true then Q true H1 else u σ H1 Q
def IF (t:TT):TT:=λσ H Q=>t σ H λc H1=>Q (!c) H1
theorem pw_and1 (ha:PT X a tA):PW X (.BoolOp .And [a] pos) tA:=by
 intro wh pins s σ H Q I h;refine isTrue_and (thn (ha pins s σ H Q I h) λc s1 e=>?_);cases c with
 |true=>exact isTrue_and_nil e
 |false=>exact e
theorem pw_or1 (ha:PT X a tA):PW X (.BoolOp .Or [a] pos) tA:=by
 intro wh pins s σ H Q I h;refine isTrue_or (thn (ha pins s σ H Q I h) λc s1 e=>?_);cases c with
 |false=>exact isTrue_or_nil e
 |true=>exact e
theorem pw_and (ha:PT X a tA) (hb:PW X (.BoolOp .And (b::rest) pos) tB'):PW X (.BoolOp .And (a::b::rest) pos) (IE tA tB'):=by
 intro wh pins s σ H Q I h;refine isTrue_and (thn (ha pins s σ H _ I h) λc s1 ⟨H1,I1,q1⟩=>?_);cases c with
 |true=>exact hb wh pins s1 σ H1 Q I1 q1
 |false=>exact⟨H1,I1,q1⟩
theorem pw_or (ha:PT X a tA) (hb:PW X (.BoolOp .Or (b::rest) pos) tB'):PW X (.BoolOp .Or (a::b::rest) pos) (tOr tA tB'):=by
 intro wh pins s σ H Q I h;refine isTrue_or (thn (ha pins s σ H _ I h) λc s1 ⟨H1,I1,q1⟩=>?_);cases c with
 |true=>exact⟨H1,I1,q1⟩
 |false=>exact hb wh pins s1 σ H1 Q I1 q1
theorem CD (ha:PT X a tA):PT X (.UnaryOp .Not a pos) (IF tA):=by
 intro pins s σ H Q I h;exact isTrue_not (ha pins s σ H (λc H1=>Q (!c) H1) I h)
def Fp (ta tb:TE):TE:=λσ H Q=>ta σ H λx H1=>∃c,x=.bl c/\if c=true then tb σ H1 Q else Q (.bl false) H1
def Fq (ta:TE):TE:=λσ H Q=>ta σ H λx H1=>∃c,x=.bl c/\Q (.bl (!c)) H1
theorem CF (h:PE X a t):PE X (.BoolOp op [a] pos) t:=λpins s σ H Q I hw=>BoolOp_one (h pins s σ H Q I hw)
theorem CG (ha:PE X a ta) (hb:PE X (.BoolOp .And (b::rest) pos) tb):PE X (.BoolOp .And (a::b::rest) pos) (Fp ta tb):=by
 intro pins s σ H Q I h;refine BoolOp_and (thn (ha pins s σ H _ I h) λv s1 ⟨x,H1,I1,r1,q1⟩=>?_);obtain⟨c,rfl,q1⟩:=q1;cases r1;refine wpAny_truthy_bool ?_;cases c with
 |true=>exact hb pins s1 σ H1 Q I1 q1
 |false=>exact⟨.bl false,H1,I1,rfl,q1⟩
theorem CH (ha:PE X a ta):PE X (.UnaryOp .Not a pos) (Fq ta):=by
 intro pins s σ H Q I h;refine UnaryOp_ (thn (ha pins s σ H _ I h) λv s1 ⟨x,H1,I1,r1,q1⟩=>?_);obtain⟨c,rfl,q1⟩:=q1;cases r1;exact not_of (wpAny_truthy_bool ⟨.bl (!c),H1,I1,rfl,q1⟩)
def tIf (t:TT) (ta tb:TE):TE:=λσ H Q=>t σ H λc H1=>if c=true then ta σ H1 Q else tb σ H1 Q
theorem vN (hc:PT X c tA) (ha:PE X a ta) (hb:PE X b tb):PE X (.IfExp c a b pos) (tIf tA ta tb):=by
 intro pins s σ H Q I h;refine wpAny_IfExp (thn (hc pins s σ H _ I h) λd s1 ⟨H1,I1,q1⟩=>?_);cases d with
 |true=>exact ha pins s1 σ H1 Q I1 q1
 |false=>exact hb pins s1 σ H1 Q I1 q1
end
def SqL (K:Frag) (H:Hp) (a:Addr) (xs:List V):Prop:=
 Rd H a (.lst xs)\/
  ∃ (o:Obj) (its:Array Value) (n:Nat),K.lookup a=some o/\o.cls=.type "list"/\o.dict=none/\o.data=.seq its n/\its.size<=sizeLine/\Vals xs its.toList
def SqT (K:Frag) (H:Hp) (a:Addr) (xs:List V):Prop:=
 Rd H a (.tup xs)\/
  ∃ (o:Obj) (its:Array Value) (n:Nat),K.lookup a=some o/\o.cls=.type "tuple"/\o.data=.seq its n/\its.size<=sizeLine/\Vals xs its.toList
def IG:Value->Option V
 |.none=>some .non
 |.bool b=>some (.bl b)
 |.int i _=>some (.int i)
 |.str x _=>some (.str x)
 |.bytes b _=>some (.byt b)
 |.float b _=>some (.flt b)
 |.ref a=>some (.ref a)
 |.type n=>some (.ty n)
 |_=>none
theorem RelV.abs (r:RelV x u):IG u=some x:=by
 cases x with
 |non=>cases r;rfl
 |bl _=>cases r;rfl
 |int _=>obtain⟨t,rfl⟩:=r;rfl
 |str _=>obtain⟨t,rfl⟩:=r;rfl
 |byt _=>obtain⟨t,rfl⟩:=r;rfl
 |flt _=>obtain⟨t,rfl⟩:=r;rfl
 |ref _=>cases r;rfl
 |ty _=>cases r;rfl
theorem RelV.inj (r:RelV x u) (q:RelV y u):x=y:=Option.some.inj (r.abs.symm.trans q.abs)
theorem Vals.inj:∀ {xs ys:List V} {us:List Value},Vals xs us->Vals ys us->xs=ys
 |_,_,_,.nil,.nil=>rfl
 |_,_,_,.cons r t,.cons r' t'=>by rw[r.inj r',Vals.inj t t']
section
variable {X:Cx} {pins:List (Addr×Obj)} {σ:St} {H:Hp} {s:Shared} {a:Addr} {xs ys:List V}
theorem SqL.of {K} (h:H a=some (.lst xs)):SqL K H a xs:=.inl (.inl h)
theorem SqT.of {K} (h:H a=some (.tup xs)):SqT K H a xs:=.inl (.inl h)
theorem Inv.list (I:Inv X pins σ H s) (h:SqL X.K H a xs):∃its:List Value,Vals xs its/\PlainL s.heap a its.toArray/\xs.length<=sizeLine:=by
 rcases h with h|⟨o,its,n,hk,hc,hd,hs,hz,r⟩
 ·obtain⟨z,its,n,r,e⟩:=h.ok I.hok;exact⟨its,r,⟨_,n,e,rfl,rfl,rfl⟩,z⟩
 ·refine⟨its.toList,r,⟨o,n,I.kIn a o hk,hc,hd,by simpa using hs⟩,?_⟩;have e:=r.length;simp only[Array.length_toList]at e;omega
theorem Inv.tuple (I:Inv X pins σ H s) (h:SqT X.K H a xs):∃its:List Value,Vals xs its/\IsTup s.heap a its.toArray/\xs.length<=sizeLine:=by
 rcases h with h|⟨o,its,n,hk,hc,hs,hz,r⟩
 ·obtain⟨z,its,r,p⟩:=h.ok I.hok;exact⟨its,r,p,z⟩
 ·refine⟨its.toList,r,⟨o,I.kIn a o hk,hc,n,by simpa using hs⟩,?_⟩;have e:=r.length;simp only[Array.length_toList]at e;omega
theorem Inv.list_inj (I:Inv X pins σ H s) (h:SqL X.K H a xs) (h':SqL X.K H a ys):xs=ys:=by
 obtain⟨its,r,⟨o,n,e,_,_,d⟩,_⟩:=I.list h;obtain⟨its',r',⟨o',n',e',_,_,d'⟩,_⟩:=I.list h';rw[e]at e';cases e';rw[d]at d';injection d' with d1 _;have:its=its':=by simpa using congrArg Array.toList d1
 subst this;exact r.inj r'
theorem Inv.tuple_inj (I:Inv X pins σ H s) (h:SqT X.K H a xs) (h':SqT X.K H a ys):xs=ys:=by
 obtain⟨its,r,⟨o,e,_,n,d⟩,_⟩:=I.tuple h;obtain⟨its',r',⟨o',e',_,n',d'⟩,_⟩:=I.tuple h';rw[e]at e';cases e';rw[d]at d';injection d' with d1 _;have:its=its':=by simpa using congrArg Array.toList d1
 subst this;exact r.inj r'
end
abbrev Cx.wish (X:Cx) (E:Value->Shared->Prop):Cx:={X with xe:=E}
abbrev Cx.nox (X:Cx):Cx:=X.wish λ_ _=>False
theorem Cx.Ok.wish {X:Cx} (ok:X.Ok) (E:Value->Shared->Prop):(X.wish E).Ok:=
 ⟨ok.mod,ok.kind,ok.glob,ok.blt,ok.above,ok.inj,ok.has,ok.cab,ok.hd,ok.frames,ok.stk,ok.exf,ok.bs,ok.bsz,ok.noex,ok.exfs,ok.funs,ok.frf⟩
theorem Cx.Ok.unwish {X:Cx} (ok:(X.wish E).Ok):X.Ok:=
 ⟨ok.mod,ok.kind,ok.glob,ok.blt,ok.above,ok.inj,ok.has,ok.cab,ok.hd,ok.frames,ok.stk,ok.exf,ok.bs,ok.bsz,ok.noex,ok.exfs,ok.funs,ok.frf⟩
section
variable {X:Cx} {pins:List (Addr×Obj)} {σ:St} {H:Hp} {s:Shared} {E:Value->Shared->Prop}
theorem Inv.wish (I:Inv X pins σ H s) (E:Value->Shared->Prop):Inv (X.wish E) pins σ H s:=⟨I.ok.wish E,I.os,I.bare,I.base,I.loc,I.cell,I.free,I.freeC,I.pin,I.hok,I.len⟩
theorem Inv.unwish (I:Inv (X.wish E) pins σ H s):Inv X pins σ H s:=⟨I.ok.unwish,I.os,I.bare,I.base,I.loc,I.cell,I.free,I.freeC,I.pin,I.hok,I.len⟩
theorem SP.unwish {D} (h:SP (X.wish E) pins D f s'):SP X pins D f s':=by
 cases f with
 |next=>obtain⟨σ',H',I,q⟩:=h;exact⟨σ',H',I.unwish,q⟩
 |brk=>obtain⟨σ',H',I,q⟩:=h;exact⟨σ',H',I.unwish,q⟩
 |cont=>obtain⟨σ',H',I,q⟩:=h;exact⟨σ',H',I.unwish,q⟩
 |ret u=>obtain⟨v,σ',H',I,r,q⟩:=h;exact⟨v,σ',H',I.unwish,r,q⟩
theorem PSs.nox {st} (h:PSs X.nox st t):PSs X st t:=λpins s σ H D I hw=>
 wpAny_mono (h pins s σ H D (I.wish _) hw) (λ_ _ q=>q.unwish) λ_ _ z=>False.elim z
end
section
variable {X:Cx} {st:Stmt} {rest:List Stmt} {t u:TS} {e:Expr} {te:TE} {pos:Pos}
def Fs:TS:=λD σ H=>D.nx σ H
def IH (t u:TS):TS:=λD σ H=>t {D with nx:=u D} σ H
theorem pss_nil:PSs X [] Fs:=λ_ _ σ H _ I h=>wpAny_execs_nil ⟨σ,H,I,h⟩
theorem kg (h1:PS X st t) (h2:PSs X rest u):PSs X (st::rest) (IH t u):=by
 intro pins s σ H D I h;refine wpAny_execs_cons (thn (h1 pins s σ H {D with nx:=u D} I h) λf s1 q=>?_);cases f with
 |next=>
  obtain⟨σ',H',I',q⟩:=q;exact h2 pins s1 σ' H' D I' q
 |ret v=>exact q
 |brk=>exact q
 |cont=>exact q
theorem Inv.quiet {σ:St} (I:Inv X pins σ H s):interactive X.env=false:=by simp[interactive,I.ok.kind]
def Ft (te:TE):TS:=λD σ H=>te σ H λ_ H1=>D.nx σ H1
theorem c7 (he:PE X e te) (hs:swapsWith e none pos.line X.env=pure false:=by rfl):PS X (.Expr e pos) (Ft te):=by
 intro pins s σ H D I h;exact wpAny_Expr_any (thn (he pins s σ H _ I h) λv s1 ⟨x,H1,I1,r1,q1⟩=>⟨σ,H1,I1,q1⟩) I.quiet hs
def II (te:TE):TS:=λD σ H=>te σ H D.rt
theorem vO (he:PE X e te):PS X (.Return (some e) pos) (II te):=by
 intro pins s σ H D I h;exact wpAny_Return_some (thn (he pins s σ H _ I h) λv s1 ⟨x,H1,I1,r1,q1⟩=>⟨x,σ,H1,I1,r1,q1⟩)
def Fu:TS:=λD _ H=>D.rt .non H
theorem ps_retN:PS X (.Return none pos) Fu:=λ_ _ σ H _ I h=>wpAny_Return_none ⟨.non,σ,H,I,rfl,h⟩
def IJ (c:TT) (t u:TS):TS:=λD σ H=>c σ H λb H1=>if b=true then t D σ H1 else u D σ H1
theorem Fw (hc:PT X c tc) (ha:PSs X a t) (hb:PSs X b u):PS X (.If c a b pos) (IJ tc t u):=by
 intro pins s σ H D I h;refine wpAny_If (thn (hc pins s σ H _ I h) λd s1 ⟨H1,I1,q1⟩=>?_);cases d with
 |true=>exact ha pins s1 σ H1 D I1 q1
 |false=>exact hb pins s1 σ H1 D I1 q1
def vP:TS:=λ_ _ _=>False
theorem ps_never:PS X st vP:=λ_ _ _ _ _ _ h=>h.elim
theorem pss_never:PSs X sts vP:=λ_ _ _ _ _ _ h=>h.elim
end
abbrev TG:=V->St->Hp->(St->Hp->Prop)->Prop
abbrev TGs:=List V->St->Hp->(St->Hp->Prop)->Prop
def PG (X:Cx) (target:Expr) (t:TG):Prop:=
 ∀ (pins:List (Addr×Obj)) (s:Shared) (σ:St) (H:Hp) (v:V) (u:Value) (Q:St->Hp->Prop),Inv X pins σ H s->RelV v u->t v σ H Q->
  wpAny (model X.prog X.w) X.A (assign target X.env u) (λ_ s'=>∃σ' H',Inv X pins σ' H' s'/\Q σ' H') X.xe s
def PGs (X:Cx) (ts:List Expr) (t:TGs):Prop:=
 ∀ (pins:List (Addr×Obj)) (s:Shared) (σ:St) (H:Hp) (vs:List V) (us:List Value) (Q:St->Hp->Prop),Inv X pins σ H s->Vals vs us->t vs σ H Q->
  wpAny (model X.prog X.w) X.A (assignInOrder ((assignEach ts X.env).map (·.2)) us) (λ_ s'=>∃σ' H',Inv X pins σ' H' s'/\Q σ' H') X.xe s
abbrev CI:=V->V->V->Hp->(Hp->Prop)->Prop
def Fy (X:Cx) (t:CI):Prop:=
 ∀ (pins:List (Addr×Obj)) (s:Shared) (σ:St) (H:Hp) (o i v:V) (ov iv u:Value) (Q:Hp->Prop),Inv X pins σ H s->RelV o ov->RelV i iv->RelV v u->t o i v H Q->
  wpAny (model X.prog X.w) X.A (setItem ov iv u) (λ_ s'=>∃H',Inv X pins σ H' s'/\Q H') X.xe s
section
variable {X:Cx} {pos:Pos}
def pe (i:Nat):TG:=λv σ H Q=>Q (σ.set i (some v)) H
theorem sS (hN:X.N.Nodup) (hi:X.N[i]?=some x) (hx:Loc X.env.scope x) (hf:X.fn x=true\/X.env.scope.names.lookup x=some .local:=by first|exact .inl rfl|exact .inr rfl|assumption):PG X (.Name x pos) (pe i):=by
 intro pins s σ H v u Q I r h;exact wpAny_assign_Name (oZ I hN hi hx r (λs' I'=>⟨_,H,I',h⟩) hf)
def IK:TGs:=λvs σ H Q=>vs=[]/\Q σ H
def Fz (t:TG) (u:TGs):TGs:=λvs σ H Q=>∃v r,vs=v::r/\t v σ H λσ' H'=>u r σ' H' Q
theorem pgs_nil:PGs X [] IK:=by
 intro pins s σ H vs us Q I r h;obtain⟨e,h⟩:=h;subst e;cases r;exact assignInOrder_nil ⟨σ,H,I,h⟩
theorem pf (h1:PG X e t) (h2:PGs X es u) (hs:(assignEach (e::es) X.env).map (·.2)=assign e X.env::(assignEach es X.env).map (·.2):=by rfl):PGs X (e::es) (Fz t u):=by
 intro pins s σ H vs us Q I r h;obtain⟨v,vr,e1,h⟩:=h;subst e1;cases r with
 |cons r rr=>
  rw[hs];refine assignInOrder_cons (thn (h1 pins s σ H _ _ _ I r h) λ_ s1 ⟨σ1,H1,I1,q1⟩=>?_);exact h2 pins s1 σ1 H1 _ _ Q I1 rr q1
def IL (K:Frag) (n:Nat) (t:TGs):TG:=λv σ H Q=>∃a xs,v=.ref a/\SqT K H a xs/\xs.length=n/\t xs σ H Q
theorem vQ {k} (hc:X.calm=true) (h:PGs X es t) (hn:(assignEach es X.env).length=n:=by rfl) (hst:(assignEach es X.env).findIdx? (·.1)=none:=by rfl):PG X (.Tuple es k pos) (IL X.K n t):=by
 intro pins s σ H v u Q I r hw;obtain⟨a,xs,e1,hq,hl,hw⟩:=hw;subst e1;cases r;obtain⟨its,rv,ht,hz⟩:=I.tuple hq;refine assign_Tuple_tuple (I.ok.hd hc) ht (by simp[hn,<-hl,rv.length]) hst λh' hx=>?_;have I1:Inv X pins σ H {s with heap:=h'}:=I.kept (t':=s.toks) λb o e=>hx b o (Nat.ne_of_lt (Heap.lt_size e)) e;exact h pins _ σ H xs _ Q I1 (by simpa using rv) hw
def IM (to ti:TE) (t:CI):TG:=λv σ H Q=>to σ H λo H1=>ti σ H1 λi H2=>t o i v H2 λH3=>Q σ H3
theorem CJ (ho:PE X o to) (hi:PE X i ti) (hs:Fy X t) (ha:∀v,assign (.Subscript o i pos) X.env v=(do
  let ov<-holding [v] (eval o X.env)
  let iv<-holding [v,ov] (eval i X.env)
  standAt pos
  holding [v,ov,iv] (setItem ov iv v)
  release [v,ov,iv] []):=by intro _;rfl):PG X (.Subscript o i pos) (IM to ti t):=by
 intro pins s σ H v u Q I r h
 rw[ha]
 refine wpAny_bind (wpAny_holding (thn (ho pins s σ H _ I h) λov s1 ⟨x,H1,I1,r1,q1⟩=>?_))
 refine wpAny_bind (wpAny_holding (thn (hi pins s1 σ H1 _ I1 q1) λiv s2 ⟨y,H2,I2,r2,q2⟩=>?_))
 refine wpAny_bind (wpAny_standAt (wpAny_bind (wpAny_holding (thn (hs pins s2 σ H2 x y v ov iv u _ I2 r1 r2 r q2) λ_ s3 ⟨H3,I3,q3⟩=>?_))))
 exact wpAny_release ⟨σ,H3,I3,q3⟩
def vR (te:TE) (g:TG):TS:=λD σ H=>te σ H λx H1=>g x σ H1 D.nx
theorem CK (he:PE X e te) (hg:PG X tg g) (hs:swapsWithSole [tg] e pos.line X.env=pure false:=by rfl) (hw:swappedStores [tg] e X.env=pure none:=by rfl) (h1:(assignEach [tg] X.env).map (·.2)=[assign tg X.env]:=by rfl):PS X (.Assign [tg] e pos) (vR te g):=by
 intro pins s σ H D I h;refine wpAny_Assign_stores (thn (he pins s σ H _ I h) λv s1 ⟨x,H1,I1,r1,q1⟩=>?_) hs hw;rw[h1];exact thn (hg pins s1 σ H1 x v _ I1 r1 q1) λ_ s2 q=>q
theorem CL (hN:X.N.Nodup) (hi:X.N[i]?=some x) (hx:Loc X.env.scope x) (he:PE X e te) (hs:swapsWith e (some (.Name x pos')) pos.line X.env=pure false:=by rfl) (hf:X.fn x=true\/X.env.scope.names.lookup x=some .local:=by first|exact .inl rfl|exact .inr rfl|assumption):
  PS X (.Assign [.Name x pos'] e pos) (vR te (pe i)):=by
 intro pins s σ H D I h
 refine wpAny_Assign_Name (thn (he pins s σ H _ I h) λv s1 ⟨y,H1,I1,r1,q1⟩=>?_) hs
 exact oZ I1 hN hi hx r1 (λs2 I2=>⟨_,H1,I2,q1⟩) hf
end
section
variable {X:Cx} {pos:Pos}
def CM (c:TT) (tb:TS):TS:=λD σ H=>∃W:Nat->St->Hp->Prop,(∃m,W m σ H)/\∀m σ H,W m σ H->
 c σ H λb H1=>if b=true then∃N:St->Hp->Prop,(∀σ' H',N σ' H'->∃m',m'<m/\W m' σ' H')/\tb {D with nx:=N,ct:=N,bk:=D.nx} σ H1 else D.nx σ H1
theorem vS (hp:PassesOwn (model X.prog X.w) X.A X.env X.xe) (hc:PT X c tc) (hb:PSs X body tb):PS X (.While c body [] pos) (CM tc tb):=by
 intro pins s σ H D I h;obtain⟨W,⟨m0,w0⟩,turn⟩:=h;refine wpAny_While (codeAny_whileLoop (λn s'=>∃σ' H',Inv X pins σ' H' s'/\W n σ' H') ?_ m0 ⟨σ,H,I,w0⟩);rintro n s1 ⟨σ1,H1,I1,w1⟩;refine wpAny_passesOwn hp (thn (hc pins s1 σ1 H1 _ I1 (turn n σ1 H1 w1)) λb s2 ⟨H2,I2,q2⟩=>?_);cases b with
 |true=>
  obtain⟨N,hN,q2⟩:=q2;rw[if_pos rfl];refine wpAny_passesOwn hp (thn (hb pins s2 σ1 H2 _ I2 q2) λf s3 q3=>?_);cases f with
  |next=>
   obtain⟨σ3,H3,I3,n3⟩:=q3;obtain⟨m',hm,w3⟩:=hN σ3 H3 n3;exact⟨m',hm,σ3,H3,I3,w3⟩
  |cont=>
   obtain⟨σ3,H3,I3,n3⟩:=q3;obtain⟨m',hm,w3⟩:=hN σ3 H3 n3;exact⟨m',hm,σ3,H3,I3,w3⟩
  |brk=>exact q3
  |ret v=>exact q3
 |false=>
  rw[if_neg Bool.false_ne_true];exact wpAny_execs_nil ⟨σ1,H2,I2,q2⟩
end
structure It where
 go:Nat->Hp->Prop
 yld:Nat->Hp->V->Hp->Prop
 stop:Nat->Hp->Prop
def gq (X:Cx) (pins:List (Addr×Obj)) (H:Hp) (b:Addr):Prop:=
 H b=none/\b≠X.env.locals/\b ∉ X.fs/\(b∈X.ex\/X.s₀.heap.objs.size<=b)/\(∀x c,X.env.cells.lookup x=some c->c≠b)/\∀p∈X.pn++pins,p.1≠b
theorem Inv.fpOk {σ:St} {b:Addr} (I:Inv X pins σ H s) (hb:s.heap.objs.size<=b) (hn:H' b=none):gq X pins H' b:=by
 refine⟨hn,Nat.ne_of_gt (lt_of_lt_of_le I.lt hb),I.nofs hb,.inr (Nat.le_trans I.sz hb),λx c e z=>?_,λp hp z=>?_⟩
 ·obtain⟨v,q⟩:=I.cell x c e;exact absurd (lt_of_lt_of_le q.lt (by rw[z];exact hb)) (Nat.lt_irrefl _)
 ·exact absurd (lt_of_lt_of_le (Heap.lt_size (I.pin p hp).1) (by rw[z];exact hb)) (Nat.lt_irrefl _)
structure Turn (P:Program) (w:World) (K:Frag) (tg:Expr) (J:It) (fp:List Addr) (it:Addr) (tn:Nat->Heap->Prop):Prop where
 mem:it∈fp
 obj:∀i h,tn i h->∀b∈fp,∃o,h.get? b=some o/\∀v,o.data≠.cell v
 keep:∀i h h',tn i h->(∀b∈fp,∀o,h.get? b=some o->h'.get? b=some o)->tn i h'
 item:∀ (X:Cx),X.prog=P->X.w=w->X.K=K->X.calm=true->∀ (i:Nat) (pins:List (Addr×Obj)) (s:Shared) (σ:St) (H:Hp) (E:Value->Shared->Prop),Inv X pins σ H s->(∀b∈fp,gq X pins H b)->tn i s.heap->J.go i H->
  wpAny (model P w) X.A (pyNext (.ref it)) (λr s1=>∃u,r=some u/\
   wpAny (model P w) X.A (letOwnedTupleGo tg (.ref it) u) (λ_ s2=>∃x H',Inv X pins σ H' s2/\RelV x u/\J.yld i H x H'/\tn (i+1) s2.heap/\∀b∈fp,H' b=none) E s1) E s
 done:∀ (X:Cx),X.prog=P->X.w=w->X.K=K->X.calm=true->∀ (i:Nat) (pins:List (Addr×Obj)) (s:Shared) (σ:St) (H:Hp) (E:Value->Shared->Prop),Inv X pins σ H s->(∀b∈fp,gq X pins H b)->tn i s.heap->J.stop i H->
  wpAny (model P w) X.A (pyNext (.ref it)) (λr s1=>r=none/\Inv X pins σ H s1) E s
 self:∀ (A:Around) (i:Nat) (s:Shared) (Q:Value->Shared->Prop) (E:Value->Shared->Prop),tn i s.heap->Q (.ref it) s->wpAny (model P w) A (pyIter (.ref it)) Q E s
abbrev TI:=St->Hp->(It->Hp->Prop)->Prop
def PIE (X:Cx) (pins:List (Addr×Obj)) (σ:St) (tg:Expr) (R:It->Hp->Prop) (itv:Value) (s2:Shared):Prop:=
 ∃ (it:Addr) (fp:List Addr) (tn:Nat->Heap->Prop) (J:It) (H':Hp),itv=.ref it/\Inv X pins σ H' s2/\Turn X.prog X.w X.K tg J fp it tn/\tn 0 s2.heap/\(∀b∈fp,gq X pins H' b)/\R J H'
def PI (X:Cx) (tg iter:Expr) (wi:TI):Prop:=
 ∀ (pins:List (Addr×Obj)) (s:Shared) (σ:St) (H:Hp) (R:It->Hp->Prop),Inv X pins σ H s->wi σ H R->
  wpAny (model X.prog X.w) X.A (eval iter X.env) (λv s1=>wpAny (model X.prog X.w) X.A (pyIter v) (PIE X pins σ tg R) X.xe s1) X.xe s
theorem sT (ho:s.heap.get? it = some o) (hc:o.cls = .type n) (hd:o.data = .fields vs) (hn:["enumerate", "zip", "dict_itemiterator", "dict_reverseitemiterator", "odict_iterator", "itertools.zip_longest", "itertools.pairwise"].contains n = false) (hQ:Q () s):wpAny M A (letOwnedTupleGo tg (.ref it) u) Q E s:=by
  unfold letOwnedTupleGo
  cases tg <;> first
    | exact wpAny_pure hQ
    | (cases u <;> first
        | exact wpAny_pure hQ
        | (refine wpAny_bind (wpAny_load ho ?_)
           rw [hc,hd]
           show wpAny M A (if (["enumerate", "zip", "dict_itemiterator", "dict_reverseitemiterator", "odict_iterator", "itertools.zip_longest", "itertools.pairwise"].contains n && vs[0]? == some (rawInt _)) = true then _ else _) Q E s
           rw [if_neg (by intro h; rw [hn,Bool.false_and] at h; cases h)]
           exact wpAny_pure hQ))
def Itl (K:Frag) (a:Addr):It:=
 ⟨λi H=>∃xs x,SqL K H a xs/\xs[i]?=some x,λi H x H'=>H'=H/\∀xs,SqL K H a xs->xs[i]?=some x,λi H=>∃xs,SqL K H a xs/\xs.length<=i⟩
def Itt (K:Frag) (a:Addr):It:=
 ⟨λi H=>∃xs x,SqT K H a xs/\xs[i]?=some x,λi H x H'=>H'=H/\∀xs,SqT K H a xs->xs[i]?=some x,λi H=>∃xs,SqT K H a xs/\xs.length<=i⟩
def Itr (lo:Int) (n:Nat):It:=⟨λi _=>i<n,λi H x H'=>H'=H/\x=.int (lo+i),λi _=>n<=i⟩
theorem uE {P:Program} {w:World} {K:Frag} {tg:Expr} (a it:Addr):Turn P w K tg (Itl K a) [it] it (λi h=>h.IsListIter it a i) where
 mem:=by simp
 obj:=λi h st b hb=>by
  have e:b=it:=by simpa using hb
  subst e;obtain⟨o,e,c,d⟩:=st;exact⟨o,e,λv z=>by rw[d]at z;cases z⟩
 keep:=λi h h' st k=>st.at λo e=>k it (by simp) o e
 item:=by
  intro X hP hw hK hc i pins s σ H E I hf st hg;subst hP hw hK;obtain⟨xs,x,hq,hx⟩:=hg;obtain⟨its,rv,p,hz⟩:=I.list hq;obtain⟨u,hu,ru⟩:=rv.get hx;obtain⟨f0,f1,f2,f3,f4,f5⟩:=hf it (by simp);refine wpAny_pyNext_list_item st p.isList (x:=u) (by simpa using hu) λh' st' sb=>?_;have I1:Inv X pins σ H {s with heap:=h'}:=I.turned (t':=s.toks) (λb o hb e=>(sb.2 b hb).trans e) f0 f1 f3 f4 f5;obtain⟨o,e,c,d⟩:=id st';exact⟨u,rfl,sT (s:={s with heap:=h'}) e c d (by decide) ⟨x,H,I1,ru,⟨rfl,λys hy=>by rw[I.list_inj hy hq];exact hx⟩,st',λb hb=>(hf b hb).1⟩⟩
 done:=by
  intro X hP hw hK hc i pins s σ H E I hf st hg;subst hP hw hK;obtain⟨xs,hq,hx⟩:=hg;obtain⟨its,rv,p,hz⟩:=I.list hq;obtain⟨f0,f1,f2,f3,f4,f5⟩:=hf it (by simp);have hl:=rv.length;exact wpAny_pyNext_list_end (I.ok.hd hc) st p.isList (by simp;omega) λh' eb=>⟨rfl,I.turned (t':=s.toks) (λb o hb e=>eb b o hb e) f0 f1 f3 f4 f5⟩
 self:=λ_ _ _ _ _ st h=>wpAny_pyIter_listiter st h
theorem qJ {P:Program} {w:World} {K:Frag} {tg:Expr} (a it:Addr):Turn P w K tg (Itt K a) [it] it (λi h=>h.IsTupleIter it a i) where
 mem:=by simp
 obj:=λi h st b hb=>by
  have e:b=it:=by simpa using hb
  subst e;obtain⟨o,e,c,d⟩:=st;exact⟨o,e,λv z=>by rw[d]at z;cases z⟩
 keep:=λi h h' st k=>st.at λo e=>k it (by simp) o e
 item:=by
  intro X hP hw hK hc i pins s σ H E I hf st hg;subst hP hw hK;obtain⟨xs,x,hq,hx⟩:=hg;obtain⟨its,rv,p,hz⟩:=I.tuple hq;obtain⟨u,hu,ru⟩:=rv.get hx;obtain⟨f0,f1,f2,f3,f4,f5⟩:=hf it (by simp);refine wpAny_pyNext_tuple_item st (show s.heap.IsTuple a its.toArray from p) (x:=u) (by simpa using hu) λh' st' sb=>?_;have I1:Inv X pins σ H {s with heap:=h'}:=I.turned (t':=s.toks) (λb o hb e=>(sb.2 b hb).trans e) f0 f1 f3 f4 f5;obtain⟨o,e,c,d⟩:=id st';exact⟨u,rfl,sT (s:={s with heap:=h'}) e c d (by decide) ⟨x,H,I1,ru,⟨rfl,λys hy=>by rw[I.tuple_inj hy hq];exact hx⟩,st',λb hb=>(hf b hb).1⟩⟩
 done:=by
  intro X hP hw hK hc i pins s σ H E I hf st hg;subst hP hw hK;obtain⟨xs,hq,hx⟩:=hg;obtain⟨its,rv,p,hz⟩:=I.tuple hq;obtain⟨f0,f1,f2,f3,f4,f5⟩:=hf it (by simp);have hl:=rv.length;exact wpAny_pyNext_tuple_end (I.ok.hd hc) st (show s.heap.IsTuple a its.toArray from p) (by simp;omega) λh' eb=>⟨rfl,I.turned (t':=s.toks) (λb o hb e=>eb b o hb e) f0 f1 f3 f4 f5⟩
 self:=λ_ _ _ _ _ st h=>wpAny_pyIter_tupleiter st h
theorem qK {P:Program} {w:World} {K:Frag} {tg:Expr} (it:Addr) (lo:Int) (n:Nat):Turn P w K tg (Itr lo n) [it] it (λi h=>IsRangeIter h it (lo+(i:Nat)*1) ((n:Int)-(i:Nat)) 1) where
 mem:=by simp
 obj:=λi h st b hb=>by
  have e:b=it:=by simpa using hb
  subst e;exact⟨_,st,λv z=>by
   have z':Data.fields _=Data.cell v:=z;cases z'⟩
 keep:=λi h h' st k=>k it (by simp) _ st
 item:=by
  intro X hP hw hK hc i pins s σ H E I hf st hg;subst hP hw hK;obtain⟨f0,f1,f2,f3,f4,f5⟩:=hf it (by simp);have W:=Walks.range (prog:=X.prog) (w:=X.w) (I.ok.hd hc) it lo 1 n;refine W.item i s _ _ hg st λv h' tk hv st' kk=>?_;obtain⟨t,rfl⟩:=hv;have I1:Inv X pins σ H {s with heap:=h',toks:=tk}:=I.turned (λb o hb e=>kk b o (by simpa using hb) e) f0 f1 f3 f4 f5;refine⟨_,rfl,sT (s:={s with heap:=h',toks:=tk}) (n:="range_iterator") st' rfl rfl (by decide) ⟨.int (lo+i),H,I1,⟨t,?_⟩,⟨rfl,rfl⟩,st',λb hb=>(hf b hb).1⟩⟩;rw[Int.mul_one]
 done:=by
  intro X hP hw hK hc i pins s σ H E I hf st hg;subst hP hw hK;obtain⟨f0,f1,f2,f3,f4,f5⟩:=hf it (by simp);exact wpAny_pyNext_range_end (I.ok.hd hc) st (by have:n<=i:=hg;omega) λh' eb=>⟨rfl,I.turned (t':=s.toks) (λb o hb e=>eb b o hb e) f0 f1 f3 f4 f5⟩
 self:=λ_ _ _ _ _ st h=>wpAny_pyIter_rangeiter st h
section
variable {X:Cx} {tg:Expr}
theorem vT {σ:St} {lo hi} (I:Inv X pins σ H s) (h1:-(2^62)<=lo) (h2:lo<2^62) (h3:-(2^62)<=hi) (h4:hi<2^62) (q:R (Itr lo (hi-lo).toNat) H):wpAny (model X.prog X.w) X.A (pyIter (.ref s.heap.objs.size)) (PIE X pins σ tg R) E {s with heap:=s.heap.push {cls:=.type "range",data:=.fields #[.int lo t,.int hi u,.int 1 v]},toks:=tk}:=by
 refine wpAny_pyIter_range (IsRange.new ..) (small_one h1 h2 h3 h4) ?_;have I1:Inv X pins σ H {s with heap:=s.heap.push {cls:=.type "range",data:=.fields #[.int lo t,.int hi u,.int 1 v]},toks:=tk}:=I.kept λb o e=>Heap.get?_push_of_some _ e;refine⟨(s.heap.push {cls:=.type "range",data:=.fields #[.int lo t,.int hi u,.int 1 v]}).objs.size,[(s.heap.push {cls:=.type "range",data:=.fields #[.int lo t,.int hi u,.int 1 v]}).objs.size],_,_,H,rfl,
  I1.kept (t':=tk) λb o e=>Heap.get?_push_of_some _ e,qK _ lo (hi-lo).toNat,?_,λb hb=>?_,q⟩
 ·have e1:lo+((0:Nat):Int)*1=lo:=by simp
  have e2:(((hi-lo).toNat:Nat):Int)-((0:Nat):Int)=Builtin.Range.rangeSize lo hi 1:=by rw[rangeSize_one];split<;>omega
  show IsRangeIter _ _ (lo+((0:Nat):Int)*1) ((((hi-lo).toNat:Nat):Int)-((0:Nat):Int)) 1;rw[e1,e2];exact Heap.get?_push_size _ rfl
 ·have e:b=(s.heap.push {cls:=.type "range",data:=.fields #[.int lo t,.int hi u,.int 1 v]}).objs.size:=by simpa using hb
  subst e;exact I1.fpOk (le_refl _) (I1.hok.fresh (le_refl _))
def FA (ta:TA):TI:=λσ H R=>ta σ H λvs H1=>∃j:Int,vs=[.int j]/\ -(2^62)<=j/\j<2^62/\R (Itr 0 j.toNat) H1
theorem uF (hg:Gl X "range") (hm:X.mg "range"=none) (ha:PA X [a] ta) (hs:starEach [a] X.env=[(false,eval a X.env)]:=by rfl):PI X tg (.Call (.Name "range" p) [a] [] pos) (FA ta):=by
 intro pins s σ H R I h;refine Call_ (gp I hg hm boot_range (PyProof.Rows.callWith_type1 (thn (ha pos pins s σ H _ I h) λus s1 ⟨vs,H1,I1,r1,q1⟩=>?_) hs rfl));obtain⟨j,e,q1,q2,q⟩:=q1;subst e;cases r1 with
 |cons r rr=>
  cases rr;obtain⟨t,rfl⟩:=r;exact call_range_1 (vT I1 (by omega) (by omega) q1 q2 (by simpa using q))
def FB (wi:TI) (g:TG) (tb:TS):TS:=λD σ H=>wi σ H λJ H1=>∃W:Nat->Nat->St->Hp->Prop,(∃m,W 0 m σ H1)/\∀i m σ H,W i m σ H->
 (J.stop i H/\D.nx σ H)\/(J.go i H/\∃N:St->Hp->Prop,(∀σ' H',N σ' H'->∃m',m'<m/\W (i+1) m' σ' H')/\∀x H',J.yld i H x H'->g x σ H' λσ2 H2=>tb {D with nx:=N,ct:=N,bk:=D.nx} σ2 H2)
def kh (fp:List Addr) (h:Heap):List (Addr×Obj):=fp.filterMap λb=>(h.get? b).map λo=>(b,o)
theorem eI (hb:b∈fp) (e:h.get? b=some o):(b,o)∈kh fp h:=List.mem_filterMap.mpr ⟨b,hb,by rw[e];rfl⟩
theorem uG (hp:p∈kh fp h):p.1∈fp/\h.get? p.1=some p.2:=by
 obtain⟨b,hb,e⟩:=List.mem_filterMap.mp hp;cases q:h.get? b with
 |none=>rw[q]at e;cases e
 |some o=>
  rw[q]at e;have e':(b,o)=p:=Option.some.inj e;subst e';exact⟨hb,q⟩
theorem Inv.pinned {σ:St} (I:Inv X pins σ H s) (hf:∀b∈fp,gq X pins H b) (ho:∀b∈fp,∃o,s.heap.get? b=some o/\∀v,o.data≠.cell v):Inv X (pins++kh fp s.heap) σ H s:=
 I.pins_of λp hp=>(mem_append.mp hp).elim (λz=>I.pin p (mem_append_right _ z)) λz=>by
  obtain⟨hb,e⟩:=uG z;obtain⟨f0,f1,f2,_⟩:=hf p.1 hb;obtain⟨o,e',d⟩:=ho p.1 hb;rw[e]at e';cases e';exact⟨e,f0,f1,f2,d⟩
theorem Inv.unpinned {σ:St} (I:Inv X (pins++pl) σ H s):Inv X pins σ H s:=I.pins_of λp hp=>I.pin p (mem_append_right _ (mem_append_left _ hp))
theorem qL (hp:PassesOwn (model X.prog X.w) X.A X.env X.xe) (hc:X.calm=true) (hi:PI X tg iter wi) (hg:PG X tg g) (hb:PSs X body tb) (hs:∀x,foldedSetIterable iter X.env x=pure x:=by intro _;rfl):PS X (.For tg iter body [] pos) (FB wi g tb):=by
 intro pins s σ H D I h
 refine wpAny_For (thn (hi pins s σ H _ I h) λv s1 h1=>thn h1 λitv s2 h2=>?_) hs
 obtain⟨it,fp,tn,J,H2,e,I2,T,st2,f2,W,⟨m0,w0⟩,turn⟩:=h2
 subst e
 -- what stays true of the iterator's objects through the loop
 have stat:∀ {H':Hp},(∀b∈fp,H' b=none)->∀b∈fp,gq X pins H' b:=λhn b hb=>⟨hn b hb,(f2 b hb).2⟩
 refine codeAny_forLoop_any (λn s'=>∃i σ' H',Inv X pins σ' H' s'/\tn i s'.heap/\(∀b∈fp,H' b=none)/\W i n σ' H') ?_ m0 ⟨0,σ,H2,I2,st2,λb hb=>(f2 b hb).1,w0⟩
 rintro n s3 ⟨i,σ3,H3,I3,st3,fr3,w3⟩
 rcases turn i n σ3 H3 w3 with⟨stop,qn⟩|⟨go,N,hN,step⟩
 ·refine wpAny_passesOwn hp (thn (T.done X rfl rfl rfl hc i pins s3 σ3 H3 X.xe I3 (stat fr3) st3 stop) λr s4 ⟨hr,I4⟩=>?_)
  subst hr
  exact wpAny_execs_nil ⟨σ3,H3,I4,qn⟩
 ·refine wpAny_passesOwn hp (thn (T.item X rfl rfl rfl hc i pins s3 σ3 H3 X.xe I3 (stat fr3) st3 go) λr s4 ⟨u,hr,h4⟩=>?_)
  subst hr
  refine wpAny_passesOwn hp (thn h4 λ_ s5 ⟨x,H5,I5,r5,y5,st5,fr5⟩=>?_)
  have I5':=I5.pinned (stat fr5) (T.obj _ _ st5)
  refine wpAny_passesOwn hp (thn (hg _ s5 σ3 H5 x u _ I5' r5 (step x H5 y5)) λ_ s6 ⟨σ6,H6,I6,q6⟩=>?_)
  refine wpAny_passesOwn hp (thn (hb _ s6 σ6 H6 _ I6 q6) λf s7 q7=>?_)
  have again:∀ {σ7:St} {H7:Hp},Inv X (pins++kh fp s5.heap) σ7 H7 s7->N σ7 H7->∃m,m<n/\∃i σ' H',Inv X pins σ' H' s7/\tn i s7.heap/\(∀b∈fp,H' b=none)/\W i m σ' H':=λ{σ7 H7} I7 n7=>by
   obtain⟨m',hm,w7⟩:=hN σ7 H7 n7
   refine⟨m',hm,i+1,σ7,H7,I7.unpinned,T.keep _ _ _ st5 λb hb o e=>(I7.pin (b,o) (mem_append_right _ (mem_append_right _ (eI hb e)))).1,λb hb=>?_,w7⟩
   obtain⟨o,e,d⟩:=T.obj _ _ st5 b hb
   exact(I7.pin (b,o) (mem_append_right _ (mem_append_right _ (eI hb e)))).2.1
  cases f with
  |next=>obtain⟨σ7,H7,I7,n7⟩:=q7;exact again I7 n7
  |cont=>obtain⟨σ7,H7,I7,n7⟩:=q7;exact again I7 n7
  |brk=>obtain⟨σ7,H7,I7,q7⟩:=q7;exact⟨σ7,H7,I7.unpinned,q7⟩
  |ret v=>obtain⟨x7,σ7,H7,I7,r7,q7⟩:=q7;exact⟨x7,σ7,H7,I7.unpinned,r7,q7⟩
end
abbrev R2:=V->V->Hp->VK->Prop
def OpR (X:Cx) (f:Value->Value->Sem Value) (r:R2):Prop:=
 ∀ (pins:List (Addr×Obj)) (s:Shared) (σ:St) (H:Hp) (x y:V) (v u:Value) (Q:VK),Inv X pins σ H s->RelV x v->RelV y u->r x y H Q->
  wpAny (model X.prog X.w) X.A (f v u) (EP X pins σ Q) X.xe s
def UnR (X:Cx) (f:Value->Sem Value) (r:V->Hp->VK->Prop):Prop:=
 ∀ (pins:List (Addr×Obj)) (s:Shared) (σ:St) (H:Hp) (x:V) (v:Value) (Q:VK),Inv X pins σ H s->RelV x v->r x H Q->
  wpAny (model X.prog X.w) X.A (f v) (EP X pins σ Q) X.xe s
def dk (X:Cx) (f:Value) (r:List V->Hp->VK->Prop):Prop:=
 ∀ (pins:List (Addr×Obj)) (s:Shared) (σ:St) (H:Hp) (xs:List V) (us:List Value) (Q:VK),Inv X pins σ H s->Vals xs us->r xs H Q->
  wpAny (model X.prog X.w) X.A (call f us) (EP X pins σ Q) X.xe s
def IN (X:Cx) (r:V->Hp->(Bool->Hp->Prop)->Prop):Prop:=
 ∀ (pins:List (Addr×Obj)) (s:Shared) (σ:St) (H:Hp) (x:V) (v:Value) (Q:Bool->Hp->Prop),Inv X pins σ H s->RelV x v->r x H Q->
  wpAny (model X.prog X.w) X.A (truthy v) (TP X pins σ Q) X.xe s
def tOp (r:R2) (ta tb:TE):TE:=λσ H Q=>ta σ H λx H1=>tb σ H1 λy H2=>r x y H2 Q
def tUn (r:V->Hp->VK->Prop) (ta:TE):TE:=λσ H Q=>ta σ H λx H1=>r x H1 Q
def rI (C:Int->Int->Prop) (g:Int->Int->V):R2:=λx y H Q=>∃i j,x=.int i/\y=.int j/\C i j/\Q (g i j) H
def rI0 (g:Int->Int->V):R2:=λx y H Q=>∃i j,x=.int i/\y=.int j/\Q (g i j) H
def rU (g:Int->V):V->Hp->VK->Prop:=λx H Q=>∃i,x=.int i/\Q (g i) H
section
variable {X:Cx} {a b c:Expr} {ta tb tc:TE} {pos:Pos}
theorem CN (ha:PE X a ta) (hb:PE X b tb) {σ:St} {R:V->V->Hp->Prop} (I:Inv X pins σ H s) (h:ta σ H λx H1=>tb σ H1 λy H2=>R x y H2) {f:Value->Value->Sem Value} (hf:∀v u s2 x y H2,Inv X pins σ H2 s2->RelV x v->RelV y u->R x y H2->wpAny (model X.prog X.w) X.A (f v u) Q X.xe s2):
  wpAny (model X.prog X.w) X.A (eval a X.env) (λv s₁=>wpAny (model X.prog X.w) X.A (eval b X.env) (λu s₂=>wpAny (model X.prog X.w) X.A (f v u) Q X.xe s₂) X.xe s₁) X.xe s:=by
 refine thn (ha pins s σ H _ I h) λv s1 ⟨x,H1,I1,r1,q1⟩=>?_
 refine thn (hb pins s1 σ H1 _ I1 q1) λu s2 ⟨y,H2,I2,r2,q2⟩=>?_
 exact hf v u s2 x y H2 I2 r1 r2 q2
theorem BU (ho:OpR X (binaryOp op) r) (ha:PE X a ta) (hb:PE X b tb):PE X (.BinOp a op b pos) (tOp r ta tb):=by
 intro pins s σ H Q I h;exact wpAny_BinOp (CN ha hb I h λv u s2 x y H2 I2 rx ry q=>ho pins s2 σ H2 x y v u Q I2 rx ry q)
theorem FC (ho:UnR X (unaryOp op) r) (ha:PE X a ta):PE X (.UnaryOp op a pos) (tUn r ta):=by
 intro pins s σ H Q I h;exact UnaryOp_ (thn (ha pins s σ H _ I h) λv s1 ⟨x,H1,I1,r1,q1⟩=>ho pins s1 σ H1 x v Q I1 r1 q1)
theorem opI {g:Int->Int->Int} (rule:∀ (i j:Int) (t u:Tok) (s:Shared) (Q:Value->Shared->Prop) (E:Value->Shared->Prop),C i j->Q (.int (g i j) s.toks) {s with toks:=s.toks+1}->wpAny (model X.prog X.w) X.A (f (.int i t) (.int j u)) Q E s):
  OpR X f (rI C λi j=>.int (g i j)):=by
 intro pins s σ H x y v u Q I rx ry h
 obtain⟨i,j,rfl,rfl,hc,q⟩:=h
 obtain⟨t,rfl⟩:=rx
 obtain⟨t',rfl⟩:=ry
 exact rule i j t t' s _ _ hc ⟨.int (g i j),H,I.tok _,⟨_,rfl⟩,q⟩
theorem FD {g:Int->Int->Int} (rule:∀ (i j:Int) (t u:Tok) (s:Shared) (Q:Value->Shared->Prop) (E:Value->Shared->Prop),Q (.int (g i j) s.toks) {s with toks:=s.toks+1}->wpAny (model X.prog X.w) X.A (f (.int i t) (.int j u)) Q E s):
  OpR X f (rI0 λi j=>.int (g i j)):=by
 intro pins s σ H x y v u Q I rx ry h
 obtain⟨i,j,rfl,rfl,q⟩:=h
 obtain⟨t,rfl⟩:=rx
 obtain⟨t',rfl⟩:=ry
 exact rule i j t t' s _ _ ⟨.int (g i j),H,I.tok _,⟨_,rfl⟩,q⟩
theorem zS {g:Int->Int->Bool} (rule:∀ (i j:Int) (t u:Tok) (s:Shared) (Q:Value->Shared->Prop) (E:Value->Shared->Prop),Q (.bool (g i j)) s->wpAny (model X.prog X.w) X.A (f (.int i t) (.int j u)) Q E s):
  OpR X f (rI0 λi j=>.bl (g i j)):=by
 intro pins s σ H x y v u Q I rx ry h
 obtain⟨i,j,rfl,rfl,q⟩:=h
 obtain⟨t,rfl⟩:=rx
 obtain⟨t',rfl⟩:=ry
 exact rule i j t t' s _ _ ⟨.bl (g i j),H,I,rfl,q⟩
def IP (i j:Int):Prop:=0<=j/\j<=1000000/\i.natAbs<2^64
def CMul (i j:Int):Prop:=(-(2^64)<i/\i<2^64)\/(-(2^64)<j/\j<2^64)
theorem CMul.ok (h:CMul i j):IntMulOk i j:=by
 rcases h with⟨h1,h2⟩|⟨h1,h2⟩
 ·exact .of_left (intBits_le_64 h1 h2)
 ·exact .of_right (intBits_le_64 h1 h2)
theorem CO:OpR X (binaryOp .Add) (rI0 λi j=>.int (i+j)):=FD λ_ _ _ _ _ _ _ q=>add_int q
theorem CP:OpR X (binaryOp .Sub) (rI0 λi j=>.int (i-j)):=FD λ_ _ _ _ _ _ _ q=>sub_int q
theorem CQ:OpR X (binaryOp .Mult) (rI CMul λi j=>.int (i*j)):=opI λ_ _ _ _ _ _ _ hc q=>mul_int q hc.ok
theorem CS:OpR X (binaryOp .Mod) (rI (λ_ j=>0<j) λi j=>.int (i%j)):=opI λi j _ _ _ _ _ hc q=>by
 have h1:(0:Int)<j:=hc;exact mod_int' (by omega) (by rw[Int.fmod_eq_emod_of_nonneg i (by omega)];exact q)
theorem unI {g:Int->Int} (rule:∀ (i:Int) (t:Tok) (s:Shared) (Q:Value->Shared->Prop) (E:Value->Shared->Prop),Q (.int (g i) s.toks) {s with toks:=s.toks+1}->wpAny (model X.prog X.w) X.A (f (.int i t)) Q E s):
  UnR X f (rU λi=>.int (g i)):=by
 intro pins s σ H x v Q I rx h
 obtain⟨i,rfl,q⟩:=h
 obtain⟨t,rfl⟩:=rx
 exact rule i t s _ _ ⟨.int (g i),H,I.tok _,⟨_,rfl⟩,q⟩
theorem CT:UnR X (unaryOp .USub) (rU λi=>.int (-i)):=unI λ_ _ _ _ _ q=>neg_int q
end
def ph:V->V->Bool
 |.non,.non=>true|.non,.int _=>true|.int _,.non=>true|.non,.bl _=>true|.bl _,.non=>true|.non,.str _=>true|.str _,.non=>true
 |.int _,.int _=>true|.bl _,.bl _=>true|.str _,.str _=>true|.byt _,.byt _=>true
 |.int _,.str _=>true|.str _,.int _=>true|.bl _,.str _=>true|.str _,.bl _=>true
 |_,_=>false
def rEq:R2:=λx y H Q=>ph x y=true/\Q (.bl (decide (x=y))) H
def rNe:R2:=λx y H Q=>ph x y=true/\Q (.bl (!decide (x=y))) H
theorem sU:decide (V.int i=V.int j)=(i==j):=by
 rw[Bool.eq_iff_iff];simp
theorem dec_bl:decide (V.bl i=V.bl j)=(i==j):=by
 rw[Bool.eq_iff_iff];simp
theorem sV:decide (V.str i=V.str j)=(i==j):=by
 rw[Bool.eq_iff_iff];simp
theorem sW:decide (V.byt i=V.byt j)=(i.toList==j.toList):=by
 rw[Bool.eq_iff_iff];cases i;cases j;simp
section
variable {X:Cx} {a b c:Expr} {ta tb tc:TE} {pos:Pos}
theorem fin_bl {σ:St} (I:Inv X pins σ H s) (q:Q (.bl k) H) (e:k=k'):EP X pins σ Q (.bool k') s:=by
 subst e;exact⟨.bl k,H,I,rfl,q⟩
theorem FE:OpR X (compareOp .Eq) rEq:=by
 intro pins s σ H x y v u Q I rx ry h;obtain⟨hs,q⟩:=h;cases x with
 |non=>
  cases rx;cases y with
  |non=>cases ry;exact PySem.EqNone.eq_none_none (fin_bl I q (by simp))
  |bl j=>cases ry;exact PySem.EqNone.eq_none_bool (fin_bl I q (by simp))
  |int j=>obtain⟨t',rfl⟩:=ry;exact PySem.EqNone.eq_none_int (fin_bl I q (by simp))
  |str j=>obtain⟨t',rfl⟩:=ry;exact PySem.EqNone.eq_none_str (fin_bl I q (by simp))
  |_=>exact absurd (show false=true from hs) Bool.false_ne_true
 |bl i=>
  cases rx;cases y with
  |non=>cases ry;exact PySem.EqNone.eq_bool_none (fin_bl I q (by simp))
  |bl j=>cases ry;exact eq_bool (fin_bl I q dec_bl)
  |str j=>obtain⟨t',rfl⟩:=ry;exact PySem.EqMixed.eq_bool_str (fin_bl I q (by simp))
  |_=>exact absurd (show false=true from hs) Bool.false_ne_true
 |int i=>
  obtain⟨t,rfl⟩:=rx;cases y with
  |non=>cases ry;exact PySem.EqNone.eq_int_none (fin_bl I q (by simp))
  |int j=>obtain⟨t',rfl⟩:=ry;exact eq_int (fin_bl I q sU)
  |str j=>obtain⟨t',rfl⟩:=ry;exact PySem.EqMixed.eq_int_str (fin_bl I q (by simp))
  |_=>exact absurd (show false=true from hs) Bool.false_ne_true
 |str i=>
  obtain⟨t,rfl⟩:=rx;cases y with
  |non=>cases ry;exact PySem.EqNone.eq_str_none (fin_bl I q (by simp))
  |bl j=>cases ry;exact PySem.EqMixed.eq_str_bool (fin_bl I q (by simp))
  |int j=>obtain⟨t',rfl⟩:=ry;exact PySem.EqMixed.eq_str_int (fin_bl I q (by simp))
  |str j=>obtain⟨t',rfl⟩:=ry;exact eq_str (fin_bl I q sV)
  |_=>exact absurd (show false=true from hs) Bool.false_ne_true
 |byt i=>
  obtain⟨t,rfl⟩:=rx;cases y with
  |byt j=>obtain⟨t',rfl⟩:=ry;exact PySem.W.eq_bytes (fin_bl I q sW)
  |_=>exact absurd (show false=true from hs) Bool.false_ne_true
 |_=>cases y<;>exact absurd (show false=true from hs) Bool.false_ne_true
theorem FG:OpR X (compareOp .NotEq) rNe:=by
 intro pins s σ H x y v u Q I rx ry h;obtain⟨hs,q⟩:=h;cases x with
 |non=>
  cases rx;cases y with
  |non=>cases ry;exact PySem.EqNone.ne_none_none (fin_bl I q (by simp))
  |bl j=>cases ry;exact PySem.EqNone.ne_none_bool (fin_bl I q (by simp))
  |int j=>obtain⟨t',rfl⟩:=ry;exact PySem.EqNone.ne_none_int (fin_bl I q (by simp))
  |str j=>obtain⟨t',rfl⟩:=ry;exact PySem.EqNone.ne_none_str (fin_bl I q (by simp))
  |_=>exact absurd (show false=true from hs) Bool.false_ne_true
 |bl i=>
  cases rx;cases y with
  |non=>cases ry;exact PySem.EqNone.ne_bool_none (fin_bl I q (by simp))
  |bl j=>cases ry;exact ne_bool (fin_bl I q (congrArg not dec_bl))
  |str j=>obtain⟨t',rfl⟩:=ry;exact PySem.EqMixed.ne_bool_str (fin_bl I q (by simp))
  |_=>exact absurd (show false=true from hs) Bool.false_ne_true
 |int i=>
  obtain⟨t,rfl⟩:=rx;cases y with
  |non=>cases ry;exact PySem.EqNone.ne_int_none (fin_bl I q (by simp))
  |int j=>obtain⟨t',rfl⟩:=ry;exact ne_int (fin_bl I q (congrArg not sU))
  |str j=>obtain⟨t',rfl⟩:=ry;exact PySem.EqMixed.ne_int_str (fin_bl I q (by simp))
  |_=>exact absurd (show false=true from hs) Bool.false_ne_true
 |str i=>
  obtain⟨t,rfl⟩:=rx;cases y with
  |non=>cases ry;exact PySem.EqNone.ne_str_none (fin_bl I q (by simp))
  |bl j=>cases ry;exact PySem.EqMixed.ne_str_bool (fin_bl I q (by simp))
  |int j=>obtain⟨t',rfl⟩:=ry;exact PySem.EqMixed.ne_str_int (fin_bl I q (by simp))
  |str j=>obtain⟨t',rfl⟩:=ry;exact ne_str (fin_bl I q (congrArg not sV))
  |_=>exact absurd (show false=true from hs) Bool.false_ne_true
 |byt i=>
  obtain⟨t,rfl⟩:=rx;cases y with
  |byt j=>obtain⟨t',rfl⟩:=ry;exact PySem.W.ne_bytes (fin_bl I q (congrArg not sW))
  |_=>exact absurd (show false=true from hs) Bool.false_ne_true
 |_=>cases y<;>exact absurd (show false=true from hs) Bool.false_ne_true
theorem op_lt:OpR X (compareOp .Lt) (rI0 λi j=>.bl (decide (i<j))):=zS λ_ _ _ _ _ _ _ q=>lt_int q
theorem ki:OpR X (compareOp .LtE) (rI0 λi j=>.bl (decide (i<=j))):=zS λ_ _ _ _ _ _ _ q=>le_int q
theorem BV:OpR X (compareOp .Gt) (rI0 λi j=>.bl (decide (j<i))):=zS λ_ _ _ _ _ _ _ q=>gt_int q
theorem BW:OpR X (compareOp .GtE) (rI0 λi j=>.bl (decide (j<=i))):=zS λ_ _ _ _ _ _ _ q=>ge_int q
theorem op_notN:OpR X (compareOp .IsNot) (λx y H Q=>y=.non/\Q (.bl (!decide (x=.non))) H):=by
 intro pins s σ H x y v u Q I rx ry h;obtain⟨rfl,q⟩:=h;cases ry;refine isnot_none_gen (fin_bl I q ?_);cases x<;>first
  |(cases rx;rfl)
  |(obtain⟨t,rfl⟩:=rx;rfl)
theorem OpR.or (h:OpR X f r) (h':OpR X f r'):OpR X f (λx y H Q=>r x y H Q\/r' x y H Q):=by
 intro pins s σ H x y v u Q I rx ry q;rcases q with q|q
 ·exact h pins s σ H x y v u Q I rx ry q
 ·exact h' pins s σ H x y v u Q I rx ry q
theorem cP (b:Expr) (h:op≠.In:=by decide) (h2:op≠.NotIn:=by decide):behindInMarks op b=false:=by
 have e1:(op==CmpOp.In)=false:=by cases op<;>first|rfl|exact absurd rfl h
 have e2:(op==CmpOp.NotIn)=false:=by cases op<;>first|rfl|exact absurd rfl h2
 cases b<;>simp[behindInMarks,e1,e2]
theorem zT (ho:OpR X (compareOp op) r) (ha:PE X a ta) (hb:PE X b tb) (hm:behindInMarks op b=false):PE X (.Compare a [op] [b] pos) (tOp r ta tb):=by
 intro pins s σ H Q I h;exact wpAny_Compare1 (CN ha hb I h λv u s2 x y H2 I2 rx ry q=>ho pins s2 σ H2 x y v u Q I2 rx ry q) hm
def BX (t:TE):TT:=λσ H Q=>t σ H λx H'=>∃k,x=.bl k/\Q k H'
theorem zU (ho:OpR X (compareOp op) r) (ha:PE X a ta) (hb:PE X b tb) (hm:behindInMarks op b=false):PT X (.Compare a [op] [b] pos) (BX (tOp r ta tb)):=by
 intro pins s σ H Q I h;refine wpAny_isTrue_Compare1 (thn (ha pins s σ H _ I h) λv s1 ⟨x,H1,I1,r1,q1⟩=>thn (hb pins s1 σ H1 _ I1 q1) λu s2 ⟨y,H2,I2,r2,q2⟩=>
  thn (ho pins s2 σ H2 x y v u _ I2 r1 r2 q2) λc s3 ⟨z,H3,I3,r3,k,e,q3⟩=>?_) hm
 subst e;cases r3;exact wpAny_truthy_bool ⟨H3,I3,q3⟩
def qM (r r':R2) (ta tb tc:TE):TE:=λσ H Q=>ta σ H λx H1=>tb σ H1 λy H2=>r x y H2 λz H3=>∃k,z=.bl k/\
 (if k=true then tc σ H3 λw' H4=>r' y w' H4 Q else Q (.bl false) H3)
theorem vU (ho:OpR X (compareOp op) r) (ho':OpR X (compareOp op') r') (ha:PE X a ta) (hb:PE X b tb) (hc:PE X c tc) (hm:lastMarks [op,op'] [b,c]=false:=by with_unfolding_all rfl):PE X (.Compare a [op,op'] [b,c] pos) (qM r r' ta tb tc):=by
 intro pins s σ H Q I h;refine Compare_chain (thn (ha pins s σ H _ I h) λv s1 ⟨x,H1,I1,r1,q1⟩=>chain_link (thn (hb pins s1 σ H1 _ I1 q1) λu s2 ⟨y,H2,I2,r2,q2⟩=>
  thn (ho pins s2 σ H2 x y v u _ I2 r1 r2 q2) λd s3 ⟨z,H3,I3,r3,k,e,q3⟩=>?_)) hm
 subst e;cases r3;refine wpAny_truthy_bool ?_;cases k with
 |false=>exact ite_ff ⟨.bl false,H3,I3,rfl,q3⟩
 |true=>exact ite_tt (chain_last (thn (hc pins s3 σ H3 _ I3 q3) λw' s4 ⟨z',H4,I4,r4,q4⟩=>ho' pins s4 σ H4 y z' u w' Q I4 r2 r4 q4))
theorem vV (ho:OpR X (compareOp op) r) (ho':OpR X (compareOp op') r') (ha:PE X a ta) (hb:PE X b tb) (hc:PE X c tc) (hm:lastMarks [op,op'] [b,c]=false:=by with_unfolding_all rfl):PT X (.Compare a [op,op'] [b,c] pos) (BX (qM r r' ta tb tc)):=by
 intro pins s σ H Q I h;refine isTrue_chain (thn (ha pins s σ H _ I h) λv s1 ⟨x,H1,I1,r1,q1⟩=>test_link (thn (hb pins s1 σ H1 _ I1 q1) λu s2 ⟨y,H2,I2,r2,q2⟩=>
  thn (ho pins s2 σ H2 x y v u _ I2 r1 r2 q2) λd s3 ⟨z,H3,I3,r3,k,e,q3⟩=>?_)) hm
 subst e;cases r3;refine wpAny_truthy_bool ?_;cases k with
 |false=>
  obtain⟨k',e',q'⟩:=q3;cases e';exact ite_ff ⟨H3,I3,q'⟩
 |true=>
  refine ite_tt (test_last (thn (hc pins s3 σ H3 _ I3 q3) λw' s4 ⟨z',H4,I4,r4,q4⟩=>thn (ho' pins s4 σ H4 y z' u w' _ I4 r2 r4 q4) λd' s5 ⟨z2,H5,I5,r5,k2,e2,q5⟩=>?_));subst e2;cases r5;exact wpAny_truthy_bool ⟨H5,I5,q5⟩
def FH (K:Frag) (x:V) (H:Hp) (k:Bool):Prop:=
 match x with
 |.non=>k=false
 |.bl b=>k=b
 |.int i=>k=(i !=0)
 |.str y=>y.length<=sizeLine/\k=((y.length:Int) !=0)
 |.byt y=>y.size<=sizeLine/\k=((y.size:Int) !=0)
 |.ref p=>(∃xs,SqL K H p xs/\k=!xs.isEmpty)\/(∃xs,SqT K H p xs/\k=!xs.isEmpty)\/∃kvs,H p=some (.dK kvs)/\k=!kvs.isEmpty
 |_=>False
theorem qN {vs:List (κ×Value)} (r:KV kvs vs):(!vs.isEmpty)=!kvs.isEmpty:=by
 cases r<;>rfl
theorem kj (r:Vals xs its):(!its.toArray.isEmpty)=!xs.isEmpty:=by
 cases r<;>simp
theorem kl:(sizeLine:Nat)<2^63:=by rw[sizeLine_eq];decide
theorem CU:IN X (λx H Q=>∃k,FH X.K x H k/\Q k H):=by
 intro pins s σ H x v Q I rx h;obtain⟨k,e,q⟩:=h;have hl:=kl;have hs:sizeLine=16777216:=sizeLine_eq;cases x with
 |non=>
  cases rx;have e':k=false:=e;subst e';exact truthy_none ⟨H,I,q⟩
 |bl b=>
  cases rx;have e':k=b:=e;subst e';exact wpAny_truthy_bool ⟨H,I,q⟩
 |int i=>
  obtain⟨t,rfl⟩:=rx;have e':k=(i !=0):=e;subst e';exact PySem.P.truthy_int ⟨H,I,q⟩
 |str y=>
  obtain⟨t,rfl⟩:=rx;obtain⟨hy,e'⟩:y.length<=sizeLine/\k=((y.length:Int) !=0):=e;subst e';exact PySem.P.truthy_str (by omega) ⟨H,I.tok _,q⟩
 |byt y=>
  obtain⟨t,rfl⟩:=rx;obtain⟨hy,e'⟩:y.size<=sizeLine/\k=((y.size:Int) !=0):=e;subst e';exact PySem.W.truthy_bytes (by omega) ⟨H,I.tok _,q⟩
 |ref p=>
  cases rx;have e':(∃xs,SqL X.K H p xs/\k=!xs.isEmpty)\/(∃xs,SqT X.K H p xs/\k=!xs.isEmpty)\/∃kvs,H p=some (.dK kvs)/\k=!kvs.isEmpty:=e;rcases e' with⟨xs,hx,e'⟩|⟨xs,hx,e'⟩|⟨kvs,hx,e'⟩
  ·subst e';obtain⟨its,r,pl,hz⟩:=I.list hx;have hlen:=r.length;exact wpAny_truthy_list pl.isList (by simp only[size_toArray];omega) ⟨H,I.tok _,by rw[kj r];exact q⟩
  ·subst e';obtain⟨its,r,pl,hz⟩:=I.tuple hx;have hlen:=r.length;exact truthy_tuple pl (by simp only[size_toArray];omega) ⟨H,I.tok _,by rw[kj r];exact q⟩
  ·subst e';obtain⟨hz,hS,vs,r,m⟩:kvs.length<=sizeLine/\(p==sysModules)=false/\∃vs,KV kvs vs/\s.heap.DictOf (aS X.prog X.w) p vs:=I.hok p _ hx;have hlen:kvs.length=vs.length:=Paired.length r;exact wpAny_truthy_dict hS m (by omega) ⟨H,I.tok _,by rw[qN r];exact q⟩
 |_=>exact(show False from e).elim
theorem vW (ha:PE X a ta) (he:∀whole,isTrue a X.env whole=(do let v<-whole;standAt a.pos;holding [v] (truthy v))):
  PT X a (λσ H Q=>ta σ H λx H'=>∃k,FH X.K x H' k/\Q k H'):=by
 intro pins s σ H Q I h
 exact isTrue_plain (thn (ha pins s σ H _ I h) λv s1 ⟨x,H1,I1,r1,q1⟩=>CU pins s1 σ H1 x v Q I1 r1 q1) (he _)
theorem f6 (r:Vals [x] us):∃u,us=[u]/\RelV x u:=by
 cases r with
 |cons r1 r2=>cases r2;exact⟨_,rfl,r1⟩
theorem vX (r:Vals [x,y] us):∃u w',us=[u,w']/\RelV x u/\RelV y w':=by
 cases r with
 |cons r1 r2=>
  cases r2 with
  |cons r3 r4=>cases r4;exact⟨_,_,rfl,r1,r3⟩
theorem call_max2 (hc:X.calm=true):dk X (.builtin "max") (λxs H Q=>∃i j,xs=[.int i,.int j]/\Q (.int (if j>i then j else i)) H):=by
 intro pins s σ H xs us Q I r h;obtain⟨i,j,rfl,q⟩:=h;obtain⟨u,w',rfl,⟨t,rfl⟩,⟨t',rfl⟩⟩:=vX r;refine max_two_ints (I.ok.hd hc) λh' tk k=>⟨_,H,I.kept k,?_,q⟩;by_cases hj:j>i
 ·rw[if_pos hj,if_pos hj];exact⟨_,rfl⟩
 ·rw[if_neg hj,if_neg hj];exact⟨_,rfl⟩
theorem call_min2 (hc:X.calm=true):dk X (.builtin "min") (λxs H Q=>∃i j,xs=[.int i,.int j]/\Q (.int (if j<i then j else i)) H):=by
 intro pins s σ H xs us Q I r h;obtain⟨i,j,rfl,q⟩:=h;obtain⟨u,w',rfl,⟨t,rfl⟩,⟨t',rfl⟩⟩:=vX r;refine min_two_ints (I.ok.hd hc) λh' tk k=>⟨_,H,I.kept k,?_,q⟩;by_cases hj:j<i
 ·rw[if_pos hj,if_pos hj];exact⟨_,rfl⟩
 ·rw[if_neg hj,if_neg hj];exact⟨_,rfl⟩
end
structure ObjM (h:Heap) (x dx C:Addr) (mA:Str->Option Value):Prop where
 obj:h.get? x=some (PySem.W.instObj C dx)
 ns:h.Ns1 dx mA
 ne:dx≠x
theorem uH {h:Heap} (n:h.Ns1 dx mA):∃od,h.get? dx=some od/\∀name,PySem.W.lookIn name od=some (mA name):=by
 obtain⟨o,es,ep,ho,hd,hk,_,hm⟩:=n;refine⟨o,ho,λname=>?_⟩;have e:=hm name;unfold nsFind findBy at e;rw[<-Array.find?_toList]at e;unfold PySem.W.lookIn;rw[hd];dsimp only;split
 ·rename_i y q;rw[q]at e;exact congrArg some e
 ·rename_i q;rw[q]at e;have a:es.toList.any (·.refKey)=false:=by
   rw[List.any_eq_false];intro y hy;obtain⟨z,t,hkey⟩:=hk y (Array.mem_toList_iff.mp hy);simp[DictEntry.refKey,hkey]
  have a':¬es.toList.any (·.refKey)=true:=by rw[a];exact Bool.false_ne_true
  rw[if_neg a'];exact congrArg some e
theorem ObjM.look (I:ObjM h x dx C mA):∃od,PySem.W.InstAt h x (PySem.W.instObj C dx) C (some od)/\∀name,PySem.W.lookIn name od=some (mA name):=
 let⟨od,ho,hl⟩:=uH I.ns
 ⟨od,⟨I.obj,rfl,rfl,ho⟩,hl⟩
section
variable {prog:Program} {w:World} {A:Around} {E:Value->Shared->Prop} {s:Shared} {K:Frag} {x dx C f:Addr} {mA:Str->Option Value} {name:Str} {v:Value}
theorem zV (X:K.In s.heap) (I:ObjM s.heap x dx C mA) (hg:PySem.W.plainGet K C name=true) (hh:PySem.W.hasDictIn K C=true) (ha:findIn K (.ref C) name=some none) (hv:mA name=some v) (hv':PySem.W.handedIn v=true) (h:Q v {s with toks:=s.toks+1}):
  wpAny (model prog w) A (getAttr (.ref x) name expr) Q E s:=by
 obtain⟨od,J,hl⟩:=I.look
 exact PySem.W.get_value X J (PySem.W.plainGet_of hg).1 (PySem.W.findObj_own hh ha rfl (by rw[hl,hv])) hv' h
theorem zW (X:K.In s.heap) (I:ObjM s.heap x dx C mA) (hs:findIn K (.ref C) "__setattr__"=some (some (.builtin "object.__setattr__"))) (hp:PySem.W.plainOver K C=true) (ht:PySem.W.takerIn K C name=some none) (hh:PySem.W.hasDictIn K C=true) (hw:PySem.Within mA ns) (hsz:ns.length<=sizeLine) (h:∀h',ObjM h' x dx C (λy=>if y=name then some v else mA y)->Heap.SameBut dx s.heap h'->Q () {s with heap:=h',toks:=s.toks+2}):
  wpAny (model prog w) A (setAttr (.ref x) name v) Q E s:=by
 obtain⟨od,J,hl⟩:=I.look
 refine PySem.W.set_plain X J hs (PySem.W.osa_open (s:={s with toks:=s.toks+1}) (r:=none) X J hp ht λb=>?_)
 obtain⟨cd,hc,hd'⟩:=PySem.W.any_some hh
 have hx:s.heap.get? x=some ⟨.ref C,some dx,.plain,#[]⟩:=I.obj
 refine wpAny_bind (wpAny_pure (wpAny_bind (wpAny_bind (wpAny_loadPart hx (wpAny_bind (PySem.W.Looks.here (s:={s with toks:=s.toks+1}) (PySem.W.looks_clsIn X hc) ?_))))))
 rw[hd']
 refine wpAny_pure (a:=some dx) (wpAny_bind (wpAny_pure (wpAny_bind ?_)))
 refine wpAny_nsSet1 (s:={s with toks:=s.toks+1}) I.ns λh' hn2 hs2=>?_
 obtain⟨oD,esD,epD,hoD,hdD,hcD⟩:=hn2.count (PySem.Within.cons name v hw)
 refine wpAny_bind (wpAny_lookBehind hoD (by rw[hdD];exact pastItsLine_dict (Nat.le_trans hcD (by rw[length_cons];omega))) ?_)
 exact wpAny_pure (h _ ⟨(hs2.2 _ (Ne.symm I.ne)).trans I.obj,hn2,I.ne⟩ hs2)
theorem vY (X:K.In s.heap) (hm:PySem.W.makesIn K C=true) (hi:findIn K (.ref C) "__init__"=some (some (.ref f))) (hf:PySem.W.typeIn K (.ref f)=some (.type "function")) (h:codeAny (model prog w) (A.under (.builtin "type.__call__" ⟨.ref C::vs,kw⟩)) (.call (.ref f) ⟨.ref (s.heap.objs.size+1)::vs,kw⟩) (PySem.W.InitBack (s.heap.objs.size+1) R)
   {s with heap:=(s.heap.push PySem.W.emptyDict).push (PySem.W.instObj C s.heap.objs.size)}):
  codeAny (model prog w) A (.call (.ref C) ⟨vs,kw⟩) R s:=by
 obtain⟨hh,g,d,t,os⟩:=s
 exact PySem.W.make_core (PySem.W.makes_of X hm) (PySem.W.looks_findIn X hi) (λself=>PySem.W.bind_fn X self hf) (.inl rfl) h
end
def dS (f:Str) (v:V):List (Str×V)->List (Str×V)
 |[]=>[(f,v)]
 |(g,x)::r=>if g=f then(g,v)::r else(g,x)::dS f v r
theorem jm (f g:Str) (v:V):∀fs:List (Str×V),(dS f v fs).lookup g=if g=f then some v else fs.lookup g
 |[]=>by
  show List.lookup g [(f,v)]=_;by_cases h:g=f
  ·have hb:(g==f)=true:=beq_iff_eq.mpr h;simp only[List.lookup,hb,if_pos h]
  ·have hb:(g==f)=false:=beq_eq_false_iff_ne.mpr h;simp only[List.lookup,hb,if_neg h]
 |(k,x)::r=>by
  have ih:=jm f g v r;rw[show dS f v ((k,x)::r)=(if k=f then(k,v)::r else(k,x)::dS f v r)from rfl];by_cases hk:k=f
  ·rw[if_pos hk];by_cases h:g=k
   ·have hb:(g==k)=true:=beq_iff_eq.mpr h;simp only[List.lookup,hb,if_pos (h.trans hk)]
   ·have hb:(g==k)=false:=beq_eq_false_iff_ne.mpr h;simp only[List.lookup,hb,if_neg (λe:g=f=>h (e.trans hk.symm))]
  ·rw[if_neg hk];by_cases h:g=k
   ·have hb:(g==k)=true:=beq_iff_eq.mpr h;simp only[List.lookup,hb,if_neg (λe:g=f=>hk (h.symm.trans e))]
   ·have hb:(g==k)=false:=beq_eq_false_iff_ne.mpr h;simp only[List.lookup,hb];exact ih
theorem iG (f:Str) (v:V):∀fs:List (Str×V),f∈(dS f v fs).map (·.1)/\∀g,g∈fs.map (·.1)->g∈(dS f v fs).map (·.1)
 |[]=>⟨by simp[dS],λg h=>by simp at h⟩
 |(k,x)::r=>by
  obtain⟨i1,i2⟩:=iG f v r;rw[show dS f v ((k,x)::r)=(if k=f then(k,v)::r else(k,x)::dS f v r)from rfl];by_cases hk:k=f
  ·rw[if_pos hk];subst hk;exact⟨by simp,λg h=>by simpa using h⟩
  ·rw[if_neg hk];refine⟨?_,λg h=>?_⟩
   ·rw[List.map_cons];exact mem_cons_of_mem _ i1
   ·rw[List.map_cons]at h⊢;rcases mem_cons.mp h with e|e
    ·exact mem_cons.mpr (.inl e)
    ·exact mem_cons_of_mem _ (i2 g e)
theorem jn (f:Str) (v:V):∀fs:List (Str×V),(dS f v fs).length<=fs.length+1
 |[]=>by simp[dS]
 |(k,x)::r=>by
  have ih:=jn f v r;rw[show dS f v ((k,x)::r)=(if k=f then(k,v)::r else(k,x)::dS f v r)from rfl];by_cases hk:k=f
  ·rw[if_pos hk,length_cons,length_cons];omega
  ·rw[if_neg hk,length_cons,length_cons];omega
theorem RelO.some_of (r:RelO (some v) o):∃u,o=some u/\RelV v u:=by
 cases o with
 |none=>exact(show False from r).elim
 |some u=>exact⟨u,rfl,r⟩
theorem uI (r:RelV v u):PySem.W.handedIn u=true:=by
 cases v with
 |non=>cases(show u=Value.none from r);rfl
 |bl b=>cases(show u=Value.bool b from r);rfl
 |int i=>obtain⟨t,e⟩:=(show∃t,u=Value.int i t from r);cases e;rfl
 |str x=>obtain⟨t,e⟩:=(show∃t,u=Value.str x t from r);cases e;rfl
 |byt b=>obtain⟨t,e⟩:=(show∃t,u=Value.bytes b t from r);cases e;rfl
 |flt b=>obtain⟨t,e⟩:=(show∃t,u=Value.float b t from r);cases e;rfl
 |ref a=>cases(show u=Value.ref a from r);rfl
 |ty n=>cases(show u=Value.type n from r);rfl
section
variable {P:Program} {w:World} {H H':Hp} {h h':Heap} {a C dx:Addr} {fs fs':List (Str×V)}
theorem sX (hok:HOk P w H h) (e:H a=some (.ins C dx fs)):∃mA,ObjM h a dx C mA/\(∀f,RelO (fs.lookup f) (mA f))/\PySem.Within mA (fs.map (·.1))/\fs.length<=1000/\H dx=some (.own a):=by
 obtain⟨d,z,ne,ob,mA,n,r,q⟩:=(show ObjOk P w H h a (.ins C dx fs)from hok a _ e);exact⟨mA,⟨ob,n,ne⟩,r,q,z,d⟩
end
structure Cls (K:Frag) (C:Addr):Prop where
 pg:PySem.W.plainGet K C Str.empty=true
 hd:PySem.W.hasDictIn K C=true
 po:PySem.W.plainOver K C=true
 sa:findIn K (.ref C) "__setattr__"=some (some (.builtin "object.__setattr__"))
theorem Cls.get {K} (c:Cls K C) (f:Str):PySem.W.plainGet K C f=true:=c.pg
def NoAttr (K:Frag) (C:Addr) (f:Str):Prop:=findIn K (.ref C) f=some none
theorem NoAttr.taker {K} (n:NoAttr K C f):PySem.W.takerIn K C f=some none:=by
 unfold PySem.W.takerIn;rw[show findIn K (.ref C) f=some none from n];rfl
structure Con (K:Frag) (C:Addr) (f:Str) (v:V) (u:Value):Prop where
 at_:findIn K (.ref C) f=some (some u)
 rel:RelV v u
 get:PySem.W.specialIn K u "__get__"=some none
 cp:PySem.W.copiedNames.contains f=false
structure Meth (K:Frag) (C:Addr) (m:Str) (f:Addr):Prop where
 at_:findIn K (.ref C) m=some (some (.ref f))
 fn:PySem.W.isFn K (.ref f)=true
 kp:PySem.W.keepIn K (.ref f)=true
section
variable {X:Cx} {pins:List (Addr×Obj)} {σ:St} {H:Hp} {s:Shared} {a C dx:Addr} {fs:List (Str×V)} {f:Str} {v:V} {A:Around} {E:Value->Shared->Prop}
theorem qO (I:Inv X pins σ H s) (e:H a=some (.ins C dx fs)) (c:Cls X.K C) (n:NoAttr X.K C f) (l:fs.lookup f=some v) (h:∀u s',Inv X pins σ H s'->RelV v u->Q u s'):wpAny (model X.prog X.w) A (getAttr (.ref a) f b) Q E s:=by
 obtain⟨mA,O,r,_,_,_⟩:=sX I.hok e;obtain⟨u,hu,ru⟩:=RelO.some_of (v:=v) (o:=mA f) (by rw[<-l];exact r f);exact zV I.kIn O (c.get f) c.hd n hu (uI ru) (h u _ (I.tok _) ru)
theorem qP (I:Inv X pins σ H s) (e:H a=some (.ins C dx fs)) (c:Cls X.K C) (n:NoAttr X.K C f) (hl:fs.length<1000) (ry:RelV y u) (h:∀s',Inv X pins σ (upd H a (.ins C dx (dS f y fs))) s'->Q () s'):wpAny (model X.prog X.w) A (setAttr (.ref a) f u) Q E s:=by
 obtain⟨mA,O,r,wi,_,ho⟩:=sX I.hok e;have hz:(fs.map (·.1)).length<=sizeLine:=by rw[length_map,sizeLine_eq];omega
 refine zW I.kIn O c.sa c.po n.taker c.hd wi hz λh' O' sb=>h _ ?_;have hd:∃o,h'.get? dx=some o:=let⟨o,_,_,e',_⟩:=O'.ns;⟨o,e'⟩;refine I.write (x:=a) (e:=dx) (by rw[e];exact True.intro) (.inr ho) (λb q hb z=>(sb.2 b hb).trans z) hd ?_;refine⟨by rw[ag O.ne];exact ho,?_,O.ne,O'.obj,_,O'.ns,λg=>?_,λg hg=>?_⟩
 ·have:=jn f y fs;omega
 ·show RelO ((dS f y fs).lookup g) (if g=f then some u else mA g);rw[jm];by_cases q:g=f
  ·rw[if_pos q,if_pos q];exact ry
  ·rw[if_neg q,if_neg q];exact r g
 ·by_cases q:g=f
  ·rw[q];exact(iG f y fs).1
  ·refine(iG f y fs).2 g (wi g λz=>hg ?_);show(if g=f then some u else mA g)=none;rw[if_neg q];exact z
theorem Inv.made (I:Inv X pins σ H s):Inv X pins σ (upd (upd H s.heap.objs.size (.own (s.heap.objs.size+1))) (s.heap.objs.size+1) (.ins C s.heap.objs.size []))
  {s with heap:=(s.heap.push PySem.W.emptyDict).push (PySem.W.instObj C s.heap.objs.size)}:=by
 have e1:(s.heap.push PySem.W.emptyDict).get? s.heap.objs.size=some PySem.W.emptyDict:=Heap.get?_push_size s.heap rfl
 have e2:((s.heap.push PySem.W.emptyDict).push (PySem.W.instObj C s.heap.objs.size)).get? (s.heap.objs.size+1)=some (PySem.W.instObj C s.heap.objs.size):=by
  have:=Heap.get?_push_size (s.heap.push PySem.W.emptyDict) (o:=PySem.W.instObj C s.heap.objs.size) rfl;rwa [Heap.size_push]at this
 have e3:(s.heap.push PySem.W.emptyDict).Ns s.heap.objs.size (λ_=>none):=⟨PySem.W.emptyDict,#[],_,e1,rfl,(λe he=>absurd he (by simp)),λ_=>rfl⟩
 have I1:=I.laid (a:=s.heap.objs.size) (o:=.own (s.heap.objs.size+1)) (h':=s.heap.push PySem.W.emptyDict) (t':=s.toks) (λb u q=>Heap.get?_push_of_some _ q) (le_refl _) ⟨_,e1⟩
 refine I1.laid (a:=s.heap.objs.size+1) (o:=.ins C s.heap.objs.size []) (t':=s.toks) (λb u q=>Heap.get?_push_of_some _ q) (Nat.le_of_eq (Heap.size_push _ _)) ?_
 have ne:s.heap.objs.size≠s.heap.objs.size+1:=Nat.ne_of_lt (Nat.lt_succ_self _)
 refine⟨by rw[ag ne,ah],Nat.zero_le _,ne,e2,λ_=>none,(Heap.Ns1.of_empty e3).at λo q=>Heap.get?_push_of_some _ q,λ_=>True.intro,λy hy=>absurd rfl hy⟩
theorem zX (hb:attributeBase e f env (eval e env)=eval e env) (h:wpAny (model prog w) A (eval e env) (λo s₁=>wpAny (model prog w) A (getAttr o f true) Q E s₁) E s):wpAny (model prog w) A (eval (.Attribute e f pos) env) Q E s:=
 Attribute_any_ h (by rw[arm_eval_Attribute,hb])
end
def IQ (K:Frag) (ta:TE) (f:Str):TE:=λσ H Q=>ta σ H λx H1=>∃a C dx fs v,x=.ref a/\H1 a=some (.ins C dx fs)/\Cls K C/\NoAttr K C f/\fs.lookup f=some v/\Q v H1
def IR (K:Frag) (ta tv:TE) (f:Str):TS:=λD σ H=>tv σ H λy H1=>ta σ H1 λx H2=>∃a C dx fs,x=.ref a/\H2 a=some (.ins C dx fs)/\Cls K C/\NoAttr K C f/\fs.length<1000/\
 D.nx σ (upd H2 a (.ins C dx (dS f y fs)))
section
variable {X:Cx} {o e value:Expr} {f:Str} {pos pos' tpos:Pos} {ta tv:TE}
theorem CV (he:PE X e ta) (hb:attributeBase e f X.env (eval e X.env)=eval e X.env):PE X (.Attribute e f pos) (IQ X.K ta f):=by
 intro pins s σ H Q I h;refine zX hb (thn (he pins s σ H _ I h) λu s1 ⟨x,H1,I1,rx,a,C,dx,fs,v,ex,ea,c,n,l,q⟩=>?_);subst ex;obtain rfl:u=Value.ref a:=rx;exact qO I1 ea c n l λu' s2 I2 ru=>⟨v,H1,I2,ru,q⟩
theorem CW (ha:PE X o ta) (hv:PE X value tv) (hs:swapsWith value (some (.Attribute o f pos')) pos.line X.env=pure false):PS X (.Assign [.Attribute o f pos'] value pos) (IR X.K ta tv f):=by
 intro pins s σ H D I h;refine plainObj_wpAny_Assign_Attribute (thn (hv pins s σ H _ I h) λu s1 ⟨y,H1,I1,ry,q⟩=>thn (ha pins s1 σ H1 _ I1 q) λov s2 ⟨x,H2,I2,rx,a,C,dx,fs,ex,ea,c,n,l,q2⟩=>?_) hs;subst ex;obtain rfl:ov=Value.ref a:=rx;exact qP I2 ea c n l ry λs3 I3=>⟨σ,_,I3,q2⟩
end
section
variable {X:Cx} {pins:List (Addr×Obj)} {σ:St} {H:Hp} {s:Shared} {A:Around} {E:Value->Shared->Prop} {Q:Value->Shared->Prop} {c:Value} {b:Bool}
inductive TyOf (K:Frag) (H:Hp):V->Value->Prop where
 |non:TyOf K H .non (.type "NoneType")
 |bl (x:Bool):TyOf K H (.bl x) (.type "bool")
 |int (i:Int):TyOf K H (.int i) (.type "int")
 |str (x:Str):TyOf K H (.str x) (.type "str")
 |flt (x:UInt64):TyOf K H (.flt x) (.type "float")
 |lst {a:Addr} {xs:List V} (e:H a=some (.lst xs)):TyOf K H (.ref a) (.type "list")
 |frz {a:Addr} {o:Obj} {xs:List V} (e:H a=some (.frz o (.lst xs))):TyOf K H (.ref a) (.type "list")
 |tup {a:Addr} {xs:List V} (e:H a=some (.tup xs)):TyOf K H (.ref a) (.type "tuple")
 |dK {a:Addr} {kvs:List (Key×V)} (e:H a=some (.dK kvs)):TyOf K H (.ref a) (.type "dict")
 |dT {a:Addr} {kvs:List (List Key×V)} (e:H a=some (.dT kvs)):TyOf K H (.ref a) (.type "dict")
 |ins {a C dx:Addr} {fs:List (Str×V)} (e:H a=some (.ins C dx fs)) (cl:Cls K C) (ha:findIn K (.ref C) "__class__"=some (some (.builtin "object.__class__")))
  (hn:PySem.W.specialIn K (.builtin "object.__class__") "__get__"=some (some (.builtin "getset_descriptor.__get__"))) (htk:PySem.W.takesIn K (.builtin "object.__class__")=some true)
  (hm:PySem.W.mroIn K C (.type "object")=some true):TyOf K H (.ref a) (.ref C)
end
structure Room (k:Nat) (A:Around):Prop where
 hd:A.handled=none
 dp:A.depth+3*k+5<recursionLimit
 un:A.units+16*k+200<cLine
theorem Room.mono (r:Room k A) (h:j<=k):Room j A:=⟨r.hd,by have:=r.dp;omega,by have:=r.un;omega⟩
theorem Room.deeper (r:Room (k+1) A) (env:Env):Room k (A.deeper env):=
 ⟨r.hd,by have:=r.dp;show A.depth+1+3*k+5<_;omega,by have:=r.un;show A.units+3+16*k+200<_;omega⟩
theorem qQ {A:Around}:(A.under (.builtin "type.__call__" ⟨.ref C::us,kw⟩)).depth=A.depth+1:=by
 first|rfl|simp[Around.under,Code.weight,Code.isCreation,Code.isGuard,Code.isCaller,Code.frames,Code.isFrame,guardIds]
theorem qR {A:Around}:(A.under (.builtin "type.__call__" ⟨.ref C::us,kw⟩)).units=A.units+1:=by
 first|rfl|simp[Around.under,Code.cUnits,Code.frames,Code.isFrame]
theorem Room.make (r:Room (k+1) A) (C:Addr) (us:List Value) (kw:List (Str×Value)):Room k (A.under (.builtin "type.__call__" ⟨.ref C::us,kw⟩)):=
 ⟨r.hd,by have:=r.dp;rw[qQ];omega,by have:=r.un;rw[qR];omega⟩
theorem Room.depth (r:Room k A):A.depth<recursionLimit:=by have:=r.dp;omega
def IS:TA:=λ_ H Q=>Q [] H
def FI (ta:TE) (tr:TA):TA:=λσ H Q=>ta σ H λx H1=>tr σ H1 λxs H2=>Q (x::xs) H2
section
variable {X:Cx} {e:Expr} {es:List Expr} {te:TE} {t:TA} {pos:Pos}
theorem pa_nil:PA X [] IS:=λ_ _ _ _ H Q I h=>Calls.spliced_nil ⟨[],H,I,.nil,h⟩
theorem bM (ha:PE X e te) (hr:PA X es t) (hs:starEach (e::es) X.env=(false,eval e X.env)::starEach es X.env:=by rfl):PA X (e::es) (FI te t):=by
 intro pos pins s σ H Q I h;rw[hs];show wpAny _ _ (spliced ((false,eval e X.env)::backTo pos (starEach es X.env))) _ _ s;refine Calls.spliced_cons (thn (ha pins s σ H _ I h) λu s1 ⟨x,H1,I1,r1,q1⟩=>?_);exact thn (hr pos pins s1 σ H1 _ I1 q1) λus s2 ⟨xs,H2,I2,r2,q2⟩=>⟨x::xs,H2,I2,.cons r1 r2,q2⟩
def IT (t:TA):TE:=λσ H Q=>t σ H λxs H1=>xs.length<=sizeLine/\∀p,H1 p=none->Q (.ref p) (upd H1 p (.tup xs))
def IU (t:TA):TE:=λσ H Q=>t σ H λxs H1=>xs.length<=sizeLine/\∀p,H1 p=none->Q (.ref p) (upd H1 p (.lst xs))
theorem vZ {x1} (h:PA X es t):PE X (.Tuple es x1 pos) (IT t):=by
 intro pins s σ H Q I hq;refine wpAny_Tuple_spliced (thn (h pos pins s σ H _ I hq) λus s1 ⟨xs,H1,I1,r,z,q⟩=>⟨by rw[<-r.length];exact z,?_⟩);have hf:H1 s1.heap.objs.size=none:=I1.hok.fresh (le_refl _);refine⟨.ref s1.heap.objs.size,upd H1 s1.heap.objs.size (.tup xs),I1.laid (t':=s1.toks) (λb u e=>Heap.get?_push_of_some _ e) (le_refl _) ?_,rfl,q _ hf⟩;exact⟨z,us,r,⟨_,Heap.get?_push_size _ rfl,rfl,_,rfl⟩⟩
theorem wa (h:PA X es t):PE X (.List es pos) (IU t):=by
 intro pins s σ H Q I hq;refine wpAny_List_spliced (thn (h pos pins s σ H _ I hq) λus s1 ⟨xs,H1,I1,r,z,q⟩=>⟨by rw[<-r.length];exact z,?_⟩);have hf:H1 s1.heap.objs.size=none:=I1.hok.fresh (le_refl _);refine⟨.ref s1.heap.objs.size,upd H1 s1.heap.objs.size (.lst xs),I1.laid (t':=s1.toks) (λb u e=>Heap.get?_push_of_some _ e) (le_refl _) ?_,rfl,q _ hf⟩;exact⟨z,us,0,r,Heap.get?_push_size _ rfl⟩
end
abbrev Sp:=List V->Hp->VK->XK->Prop
abbrev CXT:=List Env->Hp->Shared->XK->Value->Shared->Prop
structure Env0 (P:Program) (w:World) (K:Frag) (mg:Str->Option Value) (base:Heap) (A:Around) (outer:List Env) (s:Shared) (H:Hp):Prop where
 frames:A.frames=some outer
 mod:Mod K mg base
 bs:∀b o,base.get? b=some o->s.heap.get? b=some o/\H b=none
 bsz:base.objs.size<=s.heap.objs.size
 funs:s.heap.FunFrames base outer
 frf:∀b∈frs outer,H b=none
 hok:HOk P w H s.heap
 bare:AllBare s.gens
def CE (outer:List Env) (P:Program) (w:World) (H:Hp) (s:Shared) (Q:VK) (u:Value) (s':Shared):Prop:=
 ∃v H',s'.os=s.os/\AllBare s'.gens/\Un (frs outer) [] H H' s.heap s'.heap/\HOk P w H' s'.heap/\RelV v u/\Q v H'
def CR (CX:CXT) (outer:List Env) (P:Program) (w:World) (H:Hp) (s:Shared) (Q:VK) (E:XK) (r:Result) (s':Shared):Prop:=
 match r with
 |.ok (.ret u)=>CE outer P w H s Q u s'
 |.ok _=>False
 |.error e=>CX outer H s E e s'
structure FnOk (P:Program) (w:World) (K:Frag) (mg:Str->Option Value) (base:Heap) (CX:CXT) (k:Nat) (f:Addr) (fd:FuncData) (ps:List Str) (sp:Sp):Prop where
 len:∀vs H Q E,sp vs H Q E->vs.length=ps.length
 run:∀ (A:Around) (outer:List Env) (s:Shared) (H:Hp) (args:Args) (us:List Value) (vs:List V) (Q:VK) (E:XK),Room k A->Env0 P w K mg base A outer s H->BindsTo s fd args (ps.zip us)->Vals vs us->sp vs H Q E->
  codeAny (model P w) A (.call (.ref f) args) (CR CX outer P w H s Q E) s
theorem FnOk.imp {K} (F:FnOk P w K mg base CX k f fd ps sp) (h:∀vs H Q E,sp' vs H Q E->sp vs H Q E):FnOk P w K mg base CX k f fd ps sp':=
 ⟨λvs H Q E q=>F.len vs H Q E (h _ _ _ _ q),λA outer s H args us vs Q E hr he hb hv hs=>F.run A outer s H args us vs Q E hr he hb hv (h _ _ _ _ hs)⟩
theorem Env0.make {K} (e:Env0 P w K mg base A outer s H) (C:Addr) (us:List Value) (kw:List (Str×Value)):
 Env0 P w K mg base (A.under (.builtin "type.__call__" ⟨.ref C::us,kw⟩)) outer s H:=⟨by first|exact e.frames|(simpa [Around.under,Code.envs,Code.isFrame,pushEnvs] using e.frames),e.mod,e.bs,e.bsz,e.funs,e.frf,e.hok,e.bare⟩
section
variable {X:Cx} {pins:List (Addr×Obj)} {σ:St} {H:Hp} {s s':Shared}
theorem Inv.env0 (I:Inv X pins σ H s):Env0 X.prog X.w X.K X.mg X.base X.A X.stack s H:=
 ⟨I.ok.frames,I.ok.mod,I.bs,Nat.le_trans I.ok.bsz I.sz,I.stack,I.stkFree,I.hok,I.bare⟩
theorem Inv.after (I:Inv X pins σ H s) (h:CE X.stack X.prog X.w H s Q u s'):EP X pins σ Q u s':=by
 obtain⟨v,H',os,bare,un,hok,r,q⟩:=h;obtain⟨hh,g,d,t,os'⟩:=s';obtain rfl:os'=s.os:=os;exact⟨v,H',I.call (h':=hh) (g':=g) (d':=d) (t':=t) (ch:=[]) un hok bare (λb z=>absurd z (by simp)),r,q⟩
end
def FJ (sp:Sp) (dvs:List V) (E:XK) (t:TA):TE:=λσ H Q=>t σ H λvs H1=>sp (vs++dvs) H1 Q E
def FK (C:Addr) (sp:Sp) (dvs:List V) (E:XK) (t:TA):TE:=λσ H Q=>t σ H λvs H1=>∀x dx,H1 x=none->H1 dx=none->dx≠x->
 sp (.ref x::(vs++dvs)) (upd (upd H1 dx (.own x)) x (.ins C dx [])) (λv H2=>v=.non/\Q (.ref x) H2) E
def Binds (K:Frag) (fd:FuncData) (ps:List Str) (ds:List Value):Prop:=
 ∀ (s:Shared) (us:List Value),K.In s.heap->(us++ds).length=ps.length->BindsTo s fd ⟨us,[]⟩ (ps.zip (us++ds))
theorem Binds.all {K} (h:∀us:List Value,us.length=ps.length->bindArgs fd ⟨us,[]⟩=pure (ps.zip us)):Binds K fd ps []:=λs us _ hl=>by
 rw[List.append_nil]at hl⊢;exact .of_eq (h us hl)
def km (CX:CXT) (X:Cx) (E:XK):Prop:=∀ (pins:List (Addr×Obj)) (σ:St) (H:Hp) (s:Shared) (e:Value) (s':Shared),Inv X pins σ H s->CX X.stack H s E e s'->X.xe e s'
section
variable {X:Cx} {CX:CXT} {k:Nat} {f C:Addr} {fd:FuncData} {ps:List Str} {sp:Sp} {dvs:List V} {ds:List Value} {E:XK} {x m:Str} {p pos apos:Pos} {e o:Expr} {es:List Expr} {ta:TE} {t:TA}
theorem CY {σ:St} (F:FnOk X.prog X.w X.K X.mg X.base CX k f fd ps sp) (hr:Room k X.A) (hb:Binds X.K fd ps ds) (hd:Vals dvs ds) (hx:km CX X E) (I:Inv X pins σ H s) (r:Vals vs us) (h:sp (vs++dvs) H Q E):wpAny (model X.prog X.w) X.A (call (.ref f) us) (EP X pins σ Q) X.xe s:=by
 have r2:Vals (vs++dvs) (us++ds):=r.append hd;have hl:(us++ds).length=ps.length:=by rw[<-r2.length];exact F.len _ _ _ _ h
 refine wpAny_call (codeAny_mono (F.run X.A X.stack s H ⟨us,[]⟩ (us++ds) (vs++dvs) Q E hr I.env0 (hb s us I.kIn hl) r2 h) λr s' hq=>?_);cases r with
 |error e=>exact hx pins σ H s e s' I hq
 |ok fl=>
  cases fl with
  |ret u=>exact I.after hq
  |next=>exact False.elim hq
  |brk=>exact False.elim hq
  |cont=>exact False.elim hq
theorem sY (F:FnOk X.prog X.w X.K X.mg X.base CX k f fd ps sp) (hr:Room k X.A) (hg:Gl X x) (hm:X.mg x=some (.ref f)) (hk:PySem.W.keepIn X.K (.ref f)=true) (hb:Binds X.K fd ps ds) (hd:Vals dvs ds) (hx:km CX X E)
  (ha:PA X (e::es) t) (hdb:(x==("__debug__":Str))=false:=by decide) (he:starEach (e::es) X.env=(false,eval e X.env)::starEach es X.env:=by rfl) (hpl:(backTo pos (starEach es X.env)).any (·.1)=false:=by rfl):
  PE X (.Call (.Name x p) (e::es) [] pos) (FJ sp dvs E t):=by
 intro pins s σ H Q I h
 refine wpAny_Call_Name_kw (nL I hg hm ?_ hdb)
 refine PySem.W.callWith_K (h₀:=X.base) I.ok.mod.kin hk (thn (ha pos pins s σ H _ I h) λus s1 ⟨vs,H1,I1,r,q⟩=>⟨I1.kIn,?_⟩) he hpl
 exact CY F hr hb hd hx I1 r q
structure Mk (K:Frag) (C f:Addr):Prop where
 makes:PySem.W.makesIn K C=true
 init:findIn K (.ref C) "__init__"=some (some (.ref f))
 fn:PySem.W.isFn K (.ref f)=true
 kp:PySem.W.keepIn K (.ref C)=true
theorem wb {σ:St} (M:Mk X.K C f) (F:FnOk X.prog X.w X.K X.mg X.base CX k f fd ps sp) (hr:Room (k+1) X.A) (hb:Binds X.K fd ps ds) (hd:Vals dvs ds) (hx:km CX X E) (I:Inv X pins σ H s) (r:Vals vs us) (h:∀x dx,H x=none->H dx=none->dx≠x->sp (.ref x::(vs++dvs)) (upd (upd H dx (.own x)) x (.ins C dx [])) (λv H2=>v=.non/\Q (.ref x) H2) E):
  wpAny (model X.prog X.w) X.A (call (.ref C) us) (EP X pins σ Q) X.xe s:=by
 have hq:=h (s.heap.objs.size+1) s.heap.objs.size (I.hok.fresh (Nat.le_succ _)) (I.hok.fresh (le_refl _)) (Nat.ne_of_lt (Nat.lt_succ_self _))
 have I2:=Inv.made (C:=C) I
 have r2:Vals (V.ref (s.heap.objs.size+1)::(vs++dvs)) (Value.ref (s.heap.objs.size+1)::(us++ds)):=.cons rfl (r.append hd)
 have hl:(Value.ref (s.heap.objs.size+1)::us++ds).length=ps.length:=by
  have e:=r2.length;rw[F.len _ _ _ _ hq]at e;exact e.symm
 refine wpAny_call (vY (f:=f) I.kIn M.makes M.init (beq_iff_eq.mp M.fn) (codeAny_mono (F.run _ X.stack _ _ ⟨Value.ref (s.heap.objs.size+1)::us,[]⟩ (Value.ref (s.heap.objs.size+1)::(us++ds)) _ _ E (hr.make C us [])
  (I2.env0.make C us []) (hb _ (Value.ref (s.heap.objs.size+1)::us) I2.kIn hl) r2 hq) λr s' hq'=>?_))
 cases r with
 |error e=>exact hx pins σ _ _ e s' I2 hq'
 |ok fl=>
  cases fl with
  |ret u=>
   obtain⟨v,H',I3,rv,ev,q3⟩:=I2.after hq';subst ev;exact⟨rv,⟨V.ref (s.heap.objs.size+1),H',I3,rfl,q3⟩⟩
  |next=>exact False.elim hq'
  |brk=>exact False.elim hq'
  |cont=>exact False.elim hq'
theorem zY (M:Mk X.K C f) (F:FnOk X.prog X.w X.K X.mg X.base CX k f fd ps sp) (hr:Room (k+1) X.A) (hg:Gl X x) (hm:X.mg x=some (.ref C)) (hb:Binds X.K fd ps ds) (hd:Vals dvs ds) (hx:km CX X E)
  (ha:PA X (e::es) t) (hdb:(x==("__debug__":Str))=false:=by decide) (he:starEach (e::es) X.env=(false,eval e X.env)::starEach es X.env:=by rfl) (hpl:(backTo pos (starEach es X.env)).any (·.1)=false:=by rfl):
  PE X (.Call (.Name x p) (e::es) [] pos) (FK C sp dvs E t):=by
 intro pins s σ H Q I h
 refine wpAny_Call_Name_kw (nL I hg hm ?_ hdb)
 refine PySem.W.callWith_K (h₀:=X.base) I.ok.mod.kin M.kp (thn (ha pos pins s σ H _ I h) λus s1 ⟨vs,H1,I1,r,q⟩=>⟨I1.kIn,?_⟩) he hpl
 exact wb M F hr hb hd hx I1 r q
end
section
variable {X:Cx} {CX:CXT} {k:Nat} {f C:Addr} {fd:FuncData} {ps ks:List Str} {sp:Sp} {E:XK} {x m:Str} {p pos apos kpos:Pos} {e o:Expr} {es:List Expr} {kws:List Keyword} {te ta:TE} {t tk:TA} {nm:Option Str}
structure KBinds (K:Frag) (fd:FuncData) (ps ks:List Str) (g:List Value->List Value->List Value) (gV:List V->List V->List V):Prop where
 to:∀ (s:Shared) (us ws:List Value),K.In s.heap->(g us ws).length=ps.length->BindsTo s fd ⟨us,ks.zip ws⟩ (ps.zip (g us ws))
 rel:∀ {vs:List V} {us:List Value} {zs:List V} {ws:List Value},Vals vs us->Vals zs ws->Vals (gV vs zs) (g us ws)
variable {g:List Value->List Value->List Value} {gV:List V->List V->List V}
end
structure FnScope (N P:List Str) (sc:Scope):Prop where
 kind:sc.kind=.function
 co:sc.isCoroutine=false
 gen:sc.isGenerator=false
 nd:N.Nodup
 pre:N.take P.length=P
 par:∀x∈P,sc.names.lookup x=some .local\/sc.names.lookup x=some .cell
 nofree:∀y∈sc.names,y.2≠.free
theorem mS {kindOf}:∀ {binds:List (Str×Value)} {m:Str->Option Value},(∀v,(x,v) ∉ binds)->bindL kindOf binds m x=m x
 |[],_,_=>rfl
 |(n,v)::r,m,h=>by
  unfold bindL;rw[mS λw hw=>h w (mem_cons_of_mem _ hw)];split
  ·have:x≠n:=by rintro rfl;exact h v mem_cons_self
   simp[this]
  ·rfl
theorem mT {kindOf}:∀ {binds:List (Str×Value)} {m:Str->Option Value},(∀v,(x,v) ∉ binds)->bindC kindOf binds m x=m x
 |[],_,_=>rfl
 |(n,v)::r,m,h=>by
  unfold bindC;rw[mT λw hw=>h w (mem_cons_of_mem _ hw)];split
  ·rfl
  ·have:x≠n:=by rintro rfl;exact h v mem_cons_self
   simp[this]
theorem mU {kindOf}:∀ {P:List Str} {vs:List Value} {i:Nat} {m:Str->Option Value},P.Nodup->P[i]?=some x->vs[i]?=some v->kindOf x=some .local->
  bindL kindOf (P.zip vs) m x=some v
 |[],_,_,_,_,h,_,_=>by simp at h
 |_::_,[],_,_,_,_,h,_=>by simp at h
 |p::P,w::vs,0,m,nd,h1,h2,hk=>by
  simp at h1 h2;subst h1;subst h2;show bindL kindOf ((p,w)::P.zip vs) m p=_;unfold bindL;rw[mS λv hv=>(List.nodup_cons.mp nd).1 (List.of_mem_zip hv).1,if_pos hk];simp
 |p::P,w::vs,i+1,m,nd,h1,h2,hk=>by
  show bindL kindOf ((p,w)::P.zip vs) m x=_;unfold bindL;exact mU (i:=i) (List.nodup_cons.mp nd).2 (by simpa using h1) (by simpa using h2) hk
theorem mV {kindOf}:∀ {P:List Str} {vs:List Value} {i:Nat} {m:Str->Option Value},P.Nodup->P[i]?=some x->vs[i]?=some v->kindOf x≠some .local->
  bindC kindOf (P.zip vs) m x=some v
 |[],_,_,_,_,h,_,_=>by simp at h
 |_::_,[],_,_,_,_,h,_=>by simp at h
 |p::P,w::vs,0,m,nd,h1,h2,hk=>by
  simp at h1 h2;subst h1;subst h2;show bindC kindOf ((p,w)::P.zip vs) m p=_;unfold bindC;rw[mT λv hv=>(List.nodup_cons.mp nd).1 (List.of_mem_zip hv).1,if_neg hk];simp
 |p::P,w::vs,i+1,m,nd,h1,h2,hk=>by
  show bindC kindOf ((p,w)::P.zip vs) m x=_;unfold bindC;exact mV (i:=i) (List.nodup_cons.mp nd).2 (by simpa using h1) (by simpa using h2) hk
def eW (N:List Str) (vs:List V):St:=vs.map some++List.replicate (N.length-vs.length) none
def nM (CX:CXT) (P:Program) (w:World) (K:Frag) (mg:Str->Option Value) (base:Heap) (N:List Str) (qual:Str) (scope:Scope) (f:Addr) (cd:Value) (A:Around) (outer:List Env) (s:Shared) (H:Hp) (E:XK):Cx where
 prog:=P
 w:=w
 K:=K
 mg:=mg
 base:=base
 A:=A.deeper (envOfC qual scope s.heap.objs.size f cd)
 N:=N
 s₀:=s
 H₀:=H
 env:=envOfC qual scope s.heap.objs.size f cd
 outer:=outer
 stack:=envOfC qual scope s.heap.objs.size f cd::outer
 ex:=[]
 calm:=true
 fn:=λ_=>true
 pn:=[]
 xe:=λe s'=>wpAny (model P w) (A.deeper (envOfC qual scope s.heap.objs.size f cd)) (leaving (envOfC qual scope s.heap.objs.size f cd) e) (λ_ s''=>CX outer H s E e s'') (λe' s''=>CX outer H s E e' s'') s'
theorem pi {sc:Scope} (h:sc.names.lookup x=some .cell):∃c,(cellsFrom n sc.names []).lookup x=some c:=by
 have q:=PySem.W.cellsFrom_some sc.names n [] (.inl h);exact Option.isSome_iff_exists.mp q
theorem uJ {K} (S:FnScope N ps scope) (hd:A.handled=none) (e0:Env0 P w K mg base A outer s H) (hl:vs.length=ps.length) (r:Vals vs us) (x:InCallC s s.heap.objs.size (bindL (envOfC qual scope s.heap.objs.size f cd).kindOf (ps.zip us) λ_=>none) (cellsFrom (s.heap.objs.size+1) scope.names []) (bindC (envOfC qual scope s.heap.objs.size f cd).kindOf (ps.zip us) λ_=>none) s1):
  Inv (nM CX P w K mg base N qual scope f cd A outer s H E) [] (eW N vs) H s1:=by
 have hpl:ps.length<=N.length:=by have:=congrArg List.length S.pre;rw[List.length_take]at this;omega
 obtain⟨h1,tk,rfl,hk⟩:=x.done
 have noA:∀b:Addr,b ∉ (nM CX P w K mg base N qual scope f cd A outer s H E).ex:=λb z=>absurd (show b∈([]:List Addr)from z) (by simp)
 refine⟨⟨e0.mod,S.kind,rfl,rfl,le_refl _,λy z c h1 h2=>?_,λy hy=>?_,λy c _ h=>?_,λ_=>hd,Around.frames_deeper e0.frames,.inr ⟨rfl,rfl⟩,λb z=>absurd z (noA b),e0.bs,e0.bsz,λb _ _=>noA b,λb z=>absurd z (noA b),e0.funs,e0.frf⟩,
  rfl,e0.bare,Un.kept hk,⟨_,x.toInCall.ns,λi y v h1 h2 h3=>?_⟩,λy c h=>⟨_,x.cell y c h⟩,e0.hok.fresh (le_refl _),λy c h=>?_,λp hp=>absurd (show p∈([]:List (Addr×Obj))from hp) (by simp),e0.hok.kept hk,?_⟩
 ·exact name_of_addr x.apart (PySem.mem_of_lookup h1) (PySem.mem_of_lookup h2)
 ·have hy:scope.names.lookup y=some .cell\/scope.names.lookup y=some .free:=hy;rcases hy with hy|hy
  ·exact pi hy
  ·exact absurd rfl (S.nofree _ (PySem.mem_of_lookup hy))
 ·exact Nat.le_of_lt (x.above y c (PySem.mem_of_lookup h))
 ·have hi:i<vs.length:=by
   unfold eW at h2;by_cases hi:i<vs.length
   ·exact hi
   ·rw[getElem?_append_right (by simpa using hi)]at h2;rw[List.getElem?_replicate]at h2;split at h2<;>cases h2
  have ha:vs[i]?=some v:=by
   unfold eW at h2;rw[getElem?_append_left (by simpa using hi),getElem?_map]at h2;cases e:vs[i]? with
   |none=>rw[e]at h2;cases h2
   |some a=>rw[e]at h2;cases h2;rfl
  obtain⟨u,hu,rv⟩:=r.get ha;have hp:ps[i]?=some y:=by
   rw[<-S.pre,List.getElem?_take_of_lt (by omega)];exact h1
  have ndP:ps.Nodup:=by rw[<-S.pre];exact S.nd.sublist (List.take_sublist _ _)
  refine⟨u,rv,?_⟩;rcases S.par y (mem_of_getElem? hp)with k|k
  ·exact .inl ⟨k,mU ndP hp hu k⟩
  ·obtain⟨c,e⟩:=pi (n:=s.heap.objs.size+1) k;refine .inr ⟨.inl k,c,e,?_⟩;have q:=x.cell y c e;rw[mV ndP hp hu (by show scope.names.lookup y≠_;rw[k];decide)]at q;exact q
 ·exact e0.hok.fresh (Nat.le_of_lt (x.above y c (PySem.mem_of_lookup h)))
 ·unfold eW;show _=N.length;rw[length_append,length_map,List.length_replicate];omega
theorem FL {K} {dV kV doc pm cdv ct oc} (lk:K.lookup f=some ⟨oc,od,.func (PySem.W.fnOf name qual params body scope dV kV doc pm an cdv ct),osl⟩) (hcd:PySem.W.codeIn K cdv qual=true) (S:FnScope N ps scope) (len:∀vs H Q E,sp vs H Q E->vs.length=ps.length) (hbody:∀ (A:Around) (outer:List Env) (s:Shared) (H:Hp) (vs:List V) (Q:VK) (E:XK),Room k (A.deeper (envOfC qual scope s.heap.objs.size f cdv))->sp vs H Q E->
   ∃t,PSs (nM CX P w K mg base N qual scope f cdv A outer s H E) body t/\t {nx:=λ_ H'=>Q .non H',rt:=Q} (eW N vs) H):
  FnOk P w K mg base CX (k+1) f (PySem.W.fnOf name qual params body scope dV kV doc pm an cdv ct) ps sp:=by
 refine⟨len,λA outer s H args us vs Q E hr e0 hb r hsp=>?_⟩
 have hl:=len _ _ _ _ hsp
 have KX:K.In s.heap:=e0.mod.kin.keeps λb o e=>(e0.bs b o e).1
 have lim:s.heap.NoLimit:=e0.mod.nolimit.keeps λb o e=>(e0.bs b o e).1
 have hkind:∀y∈ps.zip us,scope.names.lookup y.1=some .local\/(scope.names.lookup y.1=some .cell/\((cellsFrom (s.heap.objs.size+1) scope.names []).lookup y.1).isSome=true):=λ⟨n,v⟩ hy=>by
  rcases S.par n (List.of_mem_zip hy).1 with q|q
  ·exact .inl q
  ·exact .inr ⟨q,PySem.W.cellsFrom_some _ _ _ (.inl q)⟩
 refine codeAny_call_function hr.depth (KX _ _ lk) rfl S.co S.gen rfl (PySem.W.codeRec_of KX hcd) (hb _ _ _ _ ?_)
 refine wpAny_newFunctionEnv_cells S.kind hkind λenv he s1 x=>?_
 subst he
 refine⟨lim.keeps x.toInCall.keep,codeAny_func ?_⟩
 obtain⟨t,ht,hq⟩:=hbody A outer s H vs Q E (hr.deeper _) hsp
 have I:Inv (nM CX P w K mg base N qual scope f cdv A outer s H E) [] (eW N vs) H s1:=uJ S hr.hd e0 hl r x
 refine wpAny_mono (ht [] s1 (eW N vs) H _ I hq) (λfl s' hs=>?_) λe s' hs=>hs
 have fin:∀ {σ':St} {H':Hp} {v:V} {u:Value},Inv (nM CX P w K mg base N qual scope f cdv A outer s H E) [] σ' H' s'->RelV v u->Q v H'->CE outer P w H s Q u s':=
  λ{σ' H' v u} J rv q=>⟨v,H',J.os,J.bare,J.base,J.hok,rv,q⟩
 cases fl with
 |ret u=>
  obtain⟨v,σ',H',J,rv,q⟩:=hs;exact fin J rv q
 |next=>
  obtain⟨σ',H',J,q⟩:=hs;exact fin (v:=V.non) (u:=Value.none) J rfl q
 |brk=>
  obtain⟨_,_,_,q⟩:=hs;exact False.elim q
 |cont=>
  obtain⟨_,_,_,q⟩:=hs;exact False.elim q
section
variable {X:Cx} {x:Str} {p pos:Pos} {e:Expr} {es:List Expr} {t:TA} {id T:String} {r:List V->Hp->VK->Prop}
def tCB (r:List V->Hp->VK->Prop) (t:TA):TE:=λσ H Q=>t σ H λvs H1=>r vs H1 Q
theorem kn (hc:dk X (.builtin id) r) (hg:Gl X x) (hm:X.mg x=none) (hv:bootBuiltins x=some (.builtin id)) (ha:PA X (e::es) t) (hn:x≠"__name__":=by decide) (hdb:(x==("__debug__":Str))=false:=by decide)
  (he:starEach (e::es) X.env=(false,eval e X.env)::starEach es X.env:=by rfl) (hpl:(backTo pos (starEach es X.env)).any (·.1)=false:=by rfl):PE X (.Call (.Name x p) (e::es) [] pos) (tCB r t):=by
 intro pins s σ H Q I h
 refine wpAny_Call_Name_kw (gp I hg hm hv ?_ hn hdb)
 exact PyProof.Rows.callWith_builtin1 (thn (ha pos pins s σ H _ I h) λus s1 ⟨vs,H1,I1,r1,q1⟩=>hc pins s1 σ H1 vs us Q I1 r1 q1) he hpl
theorem mW (hc:dk X (.type T) r) (hg:Gl X x) (hm:X.mg x=none) (hv:bootBuiltins x=some (.type T)) (ha:PA X (e::es) t) (hn:x≠"__name__":=by decide) (hdb:(x==("__debug__":Str))=false:=by decide)
  (he:starEach (e::es) X.env=(false,eval e X.env)::starEach es X.env:=by rfl) (hpl:(backTo pos (starEach es X.env)).any (·.1)=false:=by rfl):PE X (.Call (.Name x p) (e::es) [] pos) (tCB r t):=by
 intro pins s σ H Q I h
 refine wpAny_Call_Name_kw (gp I hg hm hv ?_ hn hdb)
 exact PyProof.Rows.callWith_type1 (thn (ha pos pins s σ H _ I h) λus s1 ⟨vs,H1,I1,r1,q1⟩=>hc pins s1 σ H1 vs us Q I1 r1 q1) he hpl
end
end L2
namespace HT
open PySem PyProof.Rows
def lexLt:List Int->List Int->Bool
 |[],[]=>false
 |[],_::_=>true
 |_::_,[]=>false
 |x::xs,y::ys=>if x=y then lexLt xs ys else decide (x<y)
theorem lexLt_cons (x y:Int) (xs ys:List Int):lexLt (x::xs) (y::ys)=if x=y then lexLt xs ys else decide (x<y):=rfl
theorem mh:lexLt [] []=false:=rfl
theorem ko (y:Int) (ys:List Int):lexLt [] (y::ys)=true:=rfl
theorem kq (x:Int) (xs:List Int):lexLt (x::xs) []=false:=rfl
theorem wc (A:Around) (s:Shared) (a:Int) (t:Tok) (c:Int) (u:Tok):∃e,SeqAt.EqAt A s (.int a t) (.int c u) e/\(e=true↔a=c):=
 ⟨(a==c),SeqAt.EqAt.int_int a t c u,by simp⟩
theorem wd (A:Around) (s:Shared) (a:Int) (t:Tok) (c:Int) (u:Tok) (prog:Program) (w:World) (E:Value->Shared->Prop) (Q:Value->Shared->Prop) (h:Q (.bool (decide (a<c))) s):
  wpAny (model prog w) A (richCompare .Lt (.int a t) (.int c u)) Q E s:=
 (PyProof.Rows.lt_int h:wpAny (model prog w) A (compareOp .Lt (.int a t) (.int c u)) Q E s)
section
open PySem.SeqAt
open PySem.AutoSeq1 (wpAny_loadPart')
open PySem.MeetsSeq PySem.MeetsSeq2 PySem.MeetsSeq3
end
section
variable {prog:Program} {w:World} {A:Around} {E:Value->Shared->Prop} {s:Shared}
def sIx (n d:Nat):Option Int->Nat
 |none=>d
 |some v=>if v<0 then(v+(n:Int)).toNat else min v.toNat n
theorem sIx_none (n d:Nat):sIx n d none=d:=rfl
theorem sIx_nat (n d k:Nat):sIx n d (some (k:Int))=min k n:=by
 show(if(k:Int)<0 then((k:Int)+(n:Int)).toNat else min (k:Int).toNat n)=min k n;rw[if_neg (by omega),Int.toNat_natCast]
theorem CZ (n d:Nat) (hd:d<=n) (o:Option Int):sIx n d o<=n:=by
 cases o with
 |none=>exact hd
 |some v=>
  show(if v<0 then(v+(n:Int)).toNat else min v.toNat n)<=n;by_cases hv:v<0
  ·rw[if_pos hv];omega
  ·rw[if_neg hv];exact Nat.min_le_right _ _
theorem sZ (v:Int) (n d:Nat):(if v<0 then max (v+(n:Int)) 0 else min v (n:Int))=((sIx n d (some v):Nat):Int):=by
 show(if v<0 then max (v+(n:Int)) 0 else min v (n:Int))=(((if v<0 then(v+(n:Int)).toNat else min v.toNat n):Nat):Int);by_cases hv:v<0
 ·simp only[if_pos hv];omega
 ·simp only[if_neg hv];omega
theorem qS (lo hi:Option Int) (n:Nat):Builtin.Slice.sliceAdjust lo hi 1 (n:Int)=(((sIx n 0 lo:Nat):Int),((sIx n n hi:Nat):Int)):=by
 have h1:¬ ((1:Int)<0):=by omega
 unfold Builtin.Slice.sliceAdjust;simp only[h1,if_false];refine Prod.ext ?_ ?_
 ·cases lo with
  |none=>rfl
  |some v=>exact sZ v n 0
 ·cases hi with
  |none=>rfl
  |some v=>exact sZ v n n
theorem qT (i j:Nat):Builtin.Slice.slicePlaces (i:Int) (j:Int) 1=j-i:=by
 unfold Builtin.Slice.slicePlaces;have h1:(1:Int)>0:=by omega
 simp only[h1,if_true,Int.ediv_one];split<;>omega
theorem kr (p:IsPart v o) (h:Q o s):wpAny (model prog w) A (Builtin.Slice.slicePartIndex v) Q E s:=by
 cases p with
 |none=>exact slicePart_none h
 |int i t=>exact slicePart_int h
theorem sliceApplied_gen {lo hi} {Q:Int×Int×Nat->Shared->Prop} (hs:s.heap.IsSliceOf sl vl vu .none) (pl:IsPart vl lo) (pu:IsPart vu hi) (h:Q (((sIx n 0 lo:Nat):Int),1,sIx n n hi-sIx n 0 lo) s):wpAny (model prog w) A (Builtin.Slice.sliceApplied (.ref sl) (pure (n:Int))) Q E s:=by
 obtain⟨os,hos,hcs,hds⟩:=id hs;unfold Builtin.Slice.sliceApplied Builtin.Slice.sliceFields;refine wpAny_bind (wpAny_bind (wpAny_field hos hds (x:=vl) rfl (wpAny_bind (wpAny_field hos hds (x:=vu) rfl (wpAny_bind (wpAny_field hos hds (x:=.none) rfl (wpAny_pure ?_)))))));refine wpAny_bind (slicePart_none ?_);show wpAny _ _ (if((1:Int)==0)=true then _ else _) _ _ s;rw[if_neg (by decide)];refine wpAny_bind (kr pl (wpAny_bind (kr pu (wpAny_bind (wpAny_pure ?_)))));show wpAny _ _ (match Builtin.Slice.sliceAdjust lo hi 1 (n:Int)with|(lo,hi)=>pure (lo,(1:Int),Builtin.Slice.slicePlaces lo hi 1)) _ _ s;rw[qS lo hi n];show wpAny _ _ (pure (((sIx n 0 lo:Nat):Int),(1:Int),Builtin.Slice.slicePlaces ((sIx n 0 lo:Nat):Int) ((sIx n n hi:Nat):Int) 1)) _ _ s;rw[qT];exact wpAny_pure h
theorem we (xs:Array Value) (i k:Nat):((List.range k).filterMap λ(m:Nat)=>xs[((i:Int)+(m:Int)*1).toNat]?).toArray=((xs.toList.drop i).take k).toArray:=by
 have e:(λ(m:Nat)=>xs[((i:Int)+(m:Int)*1).toNat]?)=λm=>xs[i+m]?:=by
  funext m;have:((i:Int)+(m:Int)*1).toNat=i+m:=by omega
  rw[this]
 rw[e];have:=pick_run xs i k;rw[List.filterMap_map]at this;have e2:((λx=>xs[x]?)∘λx=>i+x)=λm=>xs[i+m]?:=rfl;rw[e2]at this;rw[this]
theorem getItem_tuple_cut {lo hi} (ht:IsTup s.heap t items) (hs:s.heap.IsSliceOf sl vl vu .none) (pl:IsPart vl lo) (pu:IsPart vu hi) (hw:¬ (sIx items.size 0 lo=0/\sIx items.size items.size hi=items.size)) (h:Q (.ref s.heap.objs.size) {s with heap:=s.heap.push {cls:=.type "tuple",data:=.seq ((items.toList.drop (sIx items.size 0 lo)).take (sIx items.size items.size hi-sIx items.size 0 lo)).toArray}}) (hsz:items.size<=sizeLine):wpAny (model prog w) A (getItem (.ref t) (.ref sl)) Q E s:=by
 have htake:sizeOk (.seq ((items.toList.drop (sIx items.size 0 lo)).take (sIx items.size items.size hi-sIx items.size 0 lo)).toArray):=by
  show((items.toList.drop (sIx items.size 0 lo)).take (sIx items.size items.size hi-sIx items.size 0 lo)).toArray.size<=sizeLine;rw[size_toArray,List.length_take,List.length_drop,Array.length_toList];omega
 have hj:sIx items.size items.size hi<=items.size:=CZ _ _ (le_refl _) hi;obtain⟨os,hos,hcs,hds⟩:=id hs;have hTs:s.TypeIs (.ref sl) "slice":=⟨os,hos,hcs⟩;unfold getItem;try with_reducible refine wpAny_holding ?_
 first|refine wpAny_bind (wpAny_pure ?_)|skip
 refine wpAny_bind (wpAny_sequenceKey ht.typeIs (by decide) ?_);refine wpAny_bind (wpAny_callSpecial?_slot (name:=Str.ofString "__getitem__") ht.typeIs PyProof.Rows.slot_tuple_getitem
  (wpAny_call_entry PyProof.Rows.slot_tuple_getitem ht.typeIs entry_tuple_getitem ?_ (args_tuple_getitem _ _)))
 show wpAny _ _ (Builtin.Tuple.tupleItemsOf (.ref t)>>=_) _ _ s;refine wpAny_bind (tupleItemsOf_ ht ?_);refine wpAny_bind (wpAny_typeOf hTs ?_);rw[if_pos (by decide)];refine wpAny_bind (sliceApplied_gen hs pl pu ?_);have hno:¬ ((((sIx items.size 0 lo:Nat):Int)==0&&(1:Int)==1&&(sIx items.size items.size hi-sIx items.size 0 lo)==items.size)=true):=by
  intro q;rw[and_eq_true,and_eq_true]at q;have q1:((sIx items.size 0 lo:Nat):Int)=0:=eq_of_beq q.1.1;have q2:sIx items.size items.size hi-sIx items.size 0 lo=items.size:=eq_of_beq q.2;exact hw ⟨by omega,by omega⟩
 show wpAny _ _ (if(((sIx items.size 0 lo:Nat):Int)==0&&(1:Int)==1&&(sIx items.size items.size hi-sIx items.size 0 lo)==items.size)=true then _ else _) _ _ s;rw[if_neg hno,we];first
  |exact wpAny_bind (m:=Builtin.Tuple.tupleExact _) (wpAny_newObj_type (wpAny_pure ⟨_,rfl,wpAny_pure h⟩) htake)
  |exact wpAny_bind (m:=Builtin.Tuple.tupleExact _) (wpAny_newObj_type (wpAny_bind (wpAny_pure (wpAny_pure ⟨_,rfl,wpAny_pure h⟩))) htake)
  |exact wpAny_bind (wpAny_bind (m:=Builtin.Tuple.tupleExact _) (wpAny_newObj_type (wpAny_pure (wpAny_pure ⟨_,rfl,wpAny_pure h⟩)) htake))
  |exact wpAny_bind (wpAny_bind (m:=Builtin.Tuple.tupleExact _) (wpAny_newObj_type (wpAny_pure ⟨_,rfl,wpAny_pure h⟩) htake))
end
end HT
namespace L2
open PySem PySem.Spec PyProof.Rows
abbrev TO:=St->Hp->(Option Int->Hp->Prop)->Prop
def PO (X:Cx) (e:Option Expr) (t:TO):Prop:=
 ∀ (pins:List (Addr×Obj)) (s:Shared) (σ:St) (H:Hp) (Q:Option Int->Hp->Prop),Inv X pins σ H s->t σ H Q->
  wpAny (model X.prog X.w) X.A (evalPart e X.env) (λu s'=>∃o H',Inv X pins σ H' s'/\IsPart u o/\Q o H') X.xe s
def zZ:TO:=λ_ H Q=>Q none H
def FM (t:TE):TO:=λσ H Q=>t σ H λx H1=>∃i,x=.int i/\Q (some i) H1
theorem kt:∀ {us:List Value},Vals (ns.map V.int) us->IntsAre us ns:=by
 induction ns with
 |nil=>intro us r;rw[List.map_nil]at r;cases r;exact .nil
 |cons n ns ih=>
  intro us r;rw[List.map_cons]at r;cases r with
  |cons r1 r2=>
   obtain⟨t,e⟩:=r1;subst e;exact .cons n t (ih r2)
section
variable {X:Cx} {e:Expr} {te:TE} {lo hi:Option Expr} {tl th:TO} {pos p2:Pos}
theorem po_none:PO X none zZ:=by
 intro pins s σ H Q I h;rw[evalPart_none];exact wpAny_pure ⟨none,H,I,.none,h⟩
theorem z0 (h:PE X e te):PO X (some e) (FM te):=by
 intro pins s σ H Q I hw;rw[evalPart_some];refine thn (h pins s σ H _ I hw) λu s1 ⟨x,H1,I1,r1,q1⟩=>?_;obtain⟨i,rfl,q⟩:=q1;obtain⟨t,rfl⟩:=r1;exact⟨some i,H1,I1,.int i t,q⟩
def SlR (X:Cx) (r:V->Option Int->Option Int->Hp->VK->Prop):Prop:=
 ∀ (pins:List (Addr×Obj)) (s:Shared) (σ:St) (H:Hp) (x:V) (v vl vu:Value) (lo hi:Option Int) (sl:Addr) (Q:VK),Inv X pins σ H s->RelV x v->s.heap.IsSliceOf sl vl vu .none->IsPart vl lo->IsPart vu hi->r x lo hi H Q->
  ∃T id,typeLookup (.type T) "__getitem__"=pure (some (.builtin id))/\s.TypeIs v T/\wpAny (model X.prog X.w) X.A (getItem v (.ref sl)) (EP X pins σ Q) X.xe s
theorem SlR.or (h:SlR X r) (h':SlR X r'):SlR X (λx lo hi H Q=>r x lo hi H Q\/r' x lo hi H Q):=by
 intro pins s σ H x v vl vu lo hi sl Q I rx hs pl pu q;rcases q with q|q
 ·exact h pins s σ H x v vl vu lo hi sl Q I rx hs pl pu q
 ·exact h' pins s σ H x v vl vu lo hi sl Q I rx hs pl pu q
def tSl (r:V->Option Int->Option Int->Hp->VK->Prop) (te:TE) (tl th:TO):TE:=λσ H Q=>te σ H λx H1=>tl σ H1 λl H2=>th σ H2 λu H3=>r x l u H3 Q
theorem pj (hr:SlR X r) (he:PE X e te) (hl:PO X lo tl) (hu:PO X hi th):PE X (.Subscript e (.Slice lo hi none p2) pos) (tSl r te tl th):=by
 intro pins s σ H Q I h;refine Subscript_ (thn (he pins s σ H _ I h) λv s1 ⟨x,H1,I1,r1,q1⟩=>?_);refine wpAny_Slice (thn (hl pins s1 σ H1 _ I1 q1) λvl s2 ⟨l,H2,I2,pl,q2⟩=>thn (hu pins s2 σ H2 _ I2 q2) λvu s3 ⟨u,H3,I3,pu,q3⟩=>?_);rw[evalPart_none];refine wpAny_pure ?_;have I4:Inv X pins σ H3 {s3 with heap:=s3.heap.push {cls:=.type "slice",data:=.fields #[vl,vu,.none]}}:=I3.kept (t':=s3.toks) λb ob q=>Heap.get?_push_of_some _ q;obtain⟨T,id,hT,ht,hg⟩:=hr pins {s3 with heap:=s3.heap.push {cls:=.type "slice",data:=.fields #[vl,vu,.none]}} σ H3 x v vl vu l u s3.heap.objs.size Q I4 r1 (Heap.IsSliceOf.new ..) pl pu q3;show wpAny (model X.prog X.w) X.A (subscriptTail e (.Slice lo hi none p2) v (.ref s3.heap.objs.size)) (EP X pins σ Q) X.xe {s3 with heap:=s3.heap.push {cls:=.type "slice",data:=.fields #[vl,vu,.none]}};exact tail_any (ops:=[.ref s3.heap.objs.size,v]) ht hT hg (by with_unfolding_all rfl)
def pv (xs:List V) (lo hi:Option Int):List V:=(xs.drop (HT.sIx xs.length 0 lo)).take (HT.sIx xs.length xs.length hi-HT.sIx xs.length 0 lo)
theorem jo (xs:List V) (lo hi:Option Int):(pv xs lo hi).length<=xs.length:=by
 unfold pv;rw[List.length_take,List.length_drop];omega
def IV (K:Frag):V->Option Int->Option Int->Hp->VK->Prop:=λx lo hi H Q=>∃a xs,x=.ref a/\SqT K H a xs/\
 ¬ (HT.sIx xs.length 0 lo=0/\HT.sIx xs.length xs.length hi=xs.length)/\∀p,H p=none->Q (.ref p) (upd H p (.tup (pv xs lo hi)))
theorem sl_tup:SlR X (IV X.K):=by
 intro pins s σ H x v vl vu lo hi sl Q I rx hs pl pu h;obtain⟨a,xs,rfl,hx,hw,q⟩:=h;cases rx;obtain⟨its,r,ht,hz⟩:=I.tuple hx;have hlen:its.toArray.size=xs.length:=by rw[size_toArray];exact r.length.symm
 refine⟨"tuple",_,PyProof.Rows.slot_tuple_getitem.lookup,ht.typeIs,?_⟩;refine HT.getItem_tuple_cut ht hs pl pu (by rw[hlen];exact hw) ?_ (by rw[hlen];exact hz);rw[hlen];refine⟨.ref s.heap.objs.size,_,I.laid (t':=s.toks) (o:=.tup (pv xs lo hi)) (λb ob q=>Heap.get?_push_of_some _ q) (le_refl _) ?_,rfl,q _ (I.hok.fresh (le_refl _))⟩;exact⟨Nat.le_trans (jo xs lo hi) hz,_,(r.drop (HT.sIx xs.length 0 lo)).take (HT.sIx xs.length xs.length hi-HT.sIx xs.length 0 lo),IsTup.new _ _⟩
end
def ixN (n:Nat) (i:Int):Option Nat:=if 0<=i then(if i<n then some i.toNat else none)else if -(n:Int)<=i then some (i+n).toNat else none
def atI {α:Type} (xs:List α) (i:Int):Option α:=(ixN xs.length i).bind λj=>xs[j]?
theorem z5 (h:ixN n i=some j):seqIndex? i n=some j/\j<n/\ -(n:Int)<=i/\i<n:=by
 unfold ixN at h;by_cases h0:0<=i
 ·rw[if_pos h0]at h;by_cases h1:i<n
  ·rw[if_pos h1]at h;have e:i.toNat=j:=Option.some.inj h;exact⟨by rw[seqIndex_of h0 h1,e],by omega,by omega,h1⟩
  ·rw[if_neg h1]at h;cases h
 ·rw[if_neg h0]at h;by_cases h1:-(n:Int)<=i
  ·rw[if_pos h1]at h;have e:(i+n).toNat=j:=Option.some.inj h;exact⟨by rw[seqIndex_neg (by omega) h1,e],by omega,h1,by omega⟩
  ·rw[if_neg h1]at h;cases h
theorem nN {v:α} (h:atI xs i=some v):∃j,seqIndex? i xs.length=some j/\xs[j]?=some v/\j<xs.length/\ -(xs.length:Int)<=i/\i<xs.length:=by
 unfold atI at h;cases e:ixN xs.length i with
 |none=>rw[e]at h;cases h
 |some j=>
  rw[e]at h;obtain⟨h1,h2,h3,h4⟩:=z5 e;exact⟨j,h1,h,h2,h3,h4⟩
def jY (b:Expr):Prop:=∀o i,subscripted b false o i=operate [o,i] (getItem o i)
def IxR (X:Cx) (r:R2):Prop:=
 ∀ (value slice:Expr) (pins:List (Addr×Obj)) (s:Shared) (σ:St) (H:Hp) (x y:V) (v u:Value) (Q:VK),Inv X pins σ H s->RelV x v->RelV y u->r x y H Q->
  subscripted slice false v u=operate [v,u] (getItem v u)->wpAny (model X.prog X.w) X.A (subscriptTail value slice v u) (EP X pins σ Q) X.xe s
def MtR (X:Cx) (id:String) (r:V->List V->Hp->VK->Prop):Prop:=
 ∀ (pins:List (Addr×Obj)) (s:Shared) (σ:St) (H:Hp) (x:V) (xs:List V) (v:Value) (us:List Value) (Q:VK),Inv X pins σ H s->RelV x v->Vals xs us->r x xs H Q->
  wpAny (model X.prog X.w) X.A (call (.builtin id) (v::us)) (EP X pins σ Q) X.xe s
section
variable {X:Cx} {a b:Expr} {ta tb:TE} {pos:Pos}
theorem IxR.or (h:IxR X r) (h':IxR X r'):IxR X (λx y H Q=>r x y H Q\/r' x y H Q):=by
 intro value slice pins s σ H x y v u Q I rx ry q hs;rcases q with q|q
 ·exact h value slice pins s σ H x y v u Q I rx ry q hs
 ·exact h' value slice pins s σ H x y v u Q I rx ry q hs
theorem BY (hr:IxR X r) (ha:PE X a ta) (hb:PE X b tb) (hs:jY b):PE X (.Subscript a b pos) (tOp r ta tb):=by
 intro pins s σ H Q I h;exact Subscript_ (CN ha hb I h λv u s2 x y H2 I2 rx ry q=>hr a b pins s2 σ H2 x y v u Q I2 rx ry q (hs _ _))
def FN (K:Frag):R2:=λx y H Q=>∃p xs i v,x=.ref p/\y=.int i/\SqL K H p xs/\atI xs i=some v/\Q v H
def FO (K:Frag):R2:=λx y H Q=>∃p xs i v,x=.ref p/\y=.int i/\SqT K H p xs/\atI xs i=some v/\Q v H
def FP:R2:=λx y H Q=>∃z i c,x=.str z/\y=.int i/\z.length<=sizeLine/\atI z.cps.toList i=some c/\Q (.str ⟨#[c]⟩) H
theorem ix_list:IxR X (FN X.K):=by
 intro value slice pins s σ H x y v u Q I rx ry h hs;obtain⟨p,xs,i,z,rfl,rfl,hq,he,q⟩:=h;cases rx;obtain⟨t,rfl⟩:=ry;obtain⟨its,r,pl,hz⟩:=I.list hq;obtain⟨j,h1,h2,h3,h4,h5⟩:=nN he;obtain⟨w,ew,rw'⟩:=r.get h2;have hl:=r.length;have hn:=kl;have fin:EP X pins σ Q w s:=⟨z,H,I,rw',q⟩;by_cases h0:0<=i
 ·have hj:i.toNat=j:=by
   rw[seqIndex_of h0 h5]at h1;exact Option.some.inj h1
  exact item_listR pl.isList h0 (by omega) (by rw[hj];simpa using ew) fin hs
 ·have hj:(i+(its.toArray.size:Int)).toNat=j:=by
   rw[seqIndex_neg (by omega) h4]at h1;rw[size_toArray,<-hl];exact Option.some.inj h1
  exact subscriptTail_builtinR (x:=w) pl.isList.typeIs slot_list_getitem.lookup
   (wpAny_getItem_list_neg (Q:=λr s'=>r=w/\EP X pins σ Q r s') pl.isList (by omega) (by rw[size_toArray]<;>omega) (by omega) (by rw[hj];simpa using ew) ⟨rfl,fin⟩) hs
theorem ix_tup:IxR X (FO X.K):=by
 intro value slice pins s σ H x y v u Q I rx ry h hs;obtain⟨p,xs,i,z,rfl,rfl,hq,he,q⟩:=h;cases rx;obtain⟨t,rfl⟩:=ry;obtain⟨its,r,pl,hz⟩:=I.tuple hq;obtain⟨j,h1,h2,h3,h4,h5⟩:=nN he;obtain⟨w,ew,rw'⟩:=r.get h2;have hl:=r.length;have hn:=kl;have fin:EP X pins σ Q w s:=⟨z,H,I,rw',q⟩;exact subscriptTail_builtinR (x:=w) pl.typeIs slot_tuple_getitem.lookup
  (getItem_tuple (j:=j) (Q:=λr s'=>r=w/\EP X pins σ Q r s') pl (by omega) (by omega) (by rw[size_toArray,<-hl];exact h1) (by simpa using ew) ⟨rfl,fin⟩) hs
theorem C0:IxR X FP:=by
 intro value slice pins s σ H x y v u Q I rx ry h hs;obtain⟨z,i,c,rfl,rfl,hz,he,q⟩:=h;obtain⟨t,rfl⟩:=rx;obtain⟨t',rfl⟩:=ry;obtain⟨j,h1,h2,h3,h4,h5⟩:=nN he;have hl:z.cps.toList.length=z.length:=by simp[Str.length]
 rw[hl]at h1 h4 h5;have hn:=kl;exact tail_any (typeIs_str s z t) slot_str_getitem.lookup (getItem_str (c:=c) (by
  have e1:decide (i< -(2^63:Int))=false:=decide_eq_false (by omega);have e2:decide (i≥2^63)=false:=decide_eq_false (by omega);rw[e1,e2,Bool.or_false]) (by rw[h1];simpa using h2) ⟨.str ⟨#[c]⟩,H,I.tok _,⟨_,rfl⟩,q⟩) hs
def rIx (K:Frag):R2:=λx y H Q=>FN K x y H Q\/FO K x y H Q\/FP x y H Q
theorem ix_seq:IxR X (rIx X.K):=ix_list.or (ix_tup.or C0)
theorem nO (lo hi:Option Int) (n:Nat):(sliceBounds lo hi none n).1=((HT.sIx n 0 lo:Nat):Int)/\(sliceBounds lo hi none n).2.1=((HT.sIx n n hi:Nat):Int)/\(sliceBounds lo hi none n).2.2=1:=by
 refine⟨?_,?_,rfl⟩
 ·cases lo with
  |none=>simp[sliceBounds,HT.sIx]
  |some i=>
   simp only[sliceBounds,HT.sIx,Option.getD_none,show(1:Int)>0 by decide,if_true];by_cases h:i<0
   ·simp only[h,if_true]<;>omega
   ·simp only[h,if_false]<;>omega
 ·cases hi with
  |none=>simp[sliceBounds,HT.sIx]
  |some i=>
   simp only[sliceBounds,HT.sIx,Option.getD_none,show(1:Int)>0 by decide,if_true];by_cases h:i<0
   ·simp only[h,if_true]<;>omega
   ·simp only[h,if_false]<;>omega
theorem mj (its:List Value) (lo hi:Option Int):slicePick its.toArray lo hi none=((its.drop (HT.sIx its.length 0 lo)).take (HT.sIx its.length its.length hi-HT.sIx its.length 0 lo)).toArray:=by
 obtain⟨h1,h2,h3⟩:=nO lo hi its.toArray.size;unfold slicePick;rw[h1,h2,h3];simp only[sliceRange_one,pick_run,size_toArray]<;>rfl
def IW (K:Frag):V->Option Int->Option Int->Hp->VK->Prop:=λx lo hi H Q=>∃a xs,x=.ref a/\SqL K H a xs/\∀p,H p=none->Q (.ref p) (upd H p (.lst (pv xs lo hi)))
theorem z6:SlR X (IW X.K):=by
 intro pins s σ H x v vl vu lo hi sl Q I rx hs pl pu h;obtain⟨a,xs,rfl,hx,q⟩:=h;cases rx;obtain⟨its,r,ht,hz⟩:=I.list hx;have hlen:=r.length;refine⟨"list",_,slot_list_getitem.lookup,ht.isList.typeIs,?_⟩;refine wpAny_getItem_list_slice ht.isList hs pl pu .none (by simp) ?_ (by rw[size_toArray]<;>omega);rw[mj,<-hlen];refine⟨.ref s.heap.objs.size,_,I.laid (t':=s.toks) (o:=.lst (pv xs lo hi)) (λb ob q=>Heap.get?_push_of_some _ q) (le_refl _) ?_,rfl,q _ (I.hok.fresh (le_refl _))⟩;exact⟨Nat.le_trans (jo xs lo hi) hz,_,0,(r.drop (HT.sIx xs.length 0 lo)).take (HT.sIx xs.length xs.length hi-HT.sIx xs.length 0 lo),Heap.get?_push_size _ rfl⟩
def eX:V->Bool
 |.non=>true
 |.bl _=>true
 |.int _=>true
 |.str _=>true
 |_=>false
def eqV:V->V->Bool
 |.non,.non=>true
 |.bl a,.bl b=>a==b
 |.bl a,.int b=>(if a then 1 else 0)==b
 |.int a,.bl b=>a==(if b then 1 else 0)
 |.int a,.int b=>a==b
 |.str a,.str b=>a==b
 |_,_=>false
theorem wg (ry:RelV y u) (rx:RelV x v) (fy:eX y=true) (fx:eX x=true):SeqAt.EqAt A s u v (eqV y x):=by
 cases y with
 |non=>
  cases ry;cases x with
  |non=>cases rx;exact SeqAt.EqAt.same _
  |bl b=>cases rx;exact SeqAt.EqAt.none_bool b
  |int b=>obtain⟨t,rfl⟩:=rx;exact SeqAt.EqAt.none_int b t
  |str b=>obtain⟨t,rfl⟩:=rx;exact SeqAt.EqAt.none_str b t
  |_=>exact absurd (show false=true from fx) Bool.false_ne_true
 |bl a=>
  cases ry;cases x with
  |non=>cases rx;exact SeqAt.EqAt.bool_none a
  |bl b=>cases rx;exact SeqAt.EqAt.bool_bool a b
  |int b=>obtain⟨t,rfl⟩:=rx;exact SeqAt.EqAt.bool_int a b t
  |str b=>obtain⟨t,rfl⟩:=rx;exact SeqAt.EqAt.bool_str a b t
  |_=>exact absurd (show false=true from fx) Bool.false_ne_true
 |int a=>
  obtain⟨t',rfl⟩:=ry;cases x with
  |non=>cases rx;exact SeqAt.EqAt.int_none a t'
  |bl b=>cases rx;exact SeqAt.EqAt.int_bool a t' b
  |int b=>obtain⟨t,rfl⟩:=rx;exact SeqAt.EqAt.int_int a t' b t
  |str b=>obtain⟨t,rfl⟩:=rx;exact SeqAt.EqAt.int_str a t' b t
  |_=>exact absurd (show false=true from fx) Bool.false_ne_true
 |str a=>
  obtain⟨t',rfl⟩:=ry;cases x with
  |non=>cases rx;exact SeqAt.EqAt.str_none a t'
  |bl b=>cases rx;exact SeqAt.EqAt.str_bool a t' b
  |int b=>obtain⟨t,rfl⟩:=rx;exact SeqAt.EqAt.str_int a t' b t
  |str b=>obtain⟨t,rfl⟩:=rx;exact SeqAt.EqAt.str_str a t' b t
  |_=>exact absurd (show false=true from fx) Bool.false_ne_true
 |_=>exact absurd (show false=true from fy) Bool.false_ne_true
def eqU (x:V) (u:Value):Bool:=match u with
 |.none=>eqV .non x
 |.bool b=>eqV (.bl b) x
 |.int i _=>eqV (.int i) x
 |.str z _=>eqV (.str z) x
 |_=>false
theorem wj (r:RelV y u) (f:eX y=true):eqU x u=eqV y x:=by
 cases y with
 |non=>cases r;rfl
 |bl b=>cases r;rfl
 |int i=>obtain⟨t,rfl⟩:=r;rfl
 |str z=>obtain⟨t,rfl⟩:=r;rfl
 |_=>exact absurd (show false=true from f) Bool.false_ne_true
theorem nP:∀ {xs:List V} {us:List Value},Vals xs us->xs.all eX=true->us.any (eqU x)=xs.any λy=>eqV y x
 |_,_,.nil,_=>rfl
 |y::xs,u::us,.cons r t,f=>by
  rw[List.all_cons,and_eq_true]at f;rw[List.any_cons,List.any_cons,wj r f.1,nP t f.2]
theorem ku (rx:RelV x v) (fx:eX x=true):∀ {xs:List V} {us:List Value},Vals xs us->xs.all eX=true->∀u∈us,SeqAt.EqAt A s u v (eqU x u)
 |_,_,.nil,_=>λu hu=>by cases hu
 |y::xs,u::us,.cons r t,f=>λu' hu=>by
  rw[List.all_cons,and_eq_true]at f;rcases mem_cons.mp hu with rfl|hu
  ·rw[wj r f.1];exact wg r rx f.1 fx
  ·exact ku rx fx t f.2 u' hu
def inV (x:V) (xs:List V):Bool:=xs.any λy=>eqV y x
def rIn (K:Frag) (neg:Bool):R2:=λx y H Q=>∃p xs,y=.ref p/\(SqL K H p xs\/SqT K H p xs)/\eX x=true/\xs.all eX=true/\Q (.bl (if neg then !inV x xs else inV x xs)) H
theorem uK:OpR X (compareOp .In) (rIn X.K false):=by
 intro pins s σ H x y v u Q I rx ry h;obtain⟨p,xs,rfl,hq,fx,fs,q⟩:=h;cases ry;rcases hq with hq|hq
 ·obtain⟨its,r,pl,hz⟩:=I.list hq;refine SeqAt.in_listAt (eqU x) pl.isList (λw hw=>ku rx fx r fs w (by simpa using hw)) ⟨.bl _,H,I,rfl,?_⟩;rw[show its.toArray.any (eqU x)=its.any (eqU x)by simp,nP r fs];exact q
 ·obtain⟨its,r,pl,hz⟩:=I.tuple hq;refine SeqAt.in_tupleAt (eqU x) pl (λw hw=>ku rx fx r fs w (by simpa using hw)) ⟨.bl _,H,I,rfl,?_⟩;rw[show its.toArray.any (eqU x)=its.any (eqU x)by simp,nP r fs];exact q
theorem call_len_seq:dk X (.builtin "len") (λxs H Q=>∃p ys,xs=[.ref p]/\(SqL X.K H p ys\/SqT X.K H p ys)/\Q (.int ys.length) H):=by
 intro pins s σ H xs us Q I r h;obtain⟨p,ys,rfl,hq,q⟩:=h;obtain⟨u,rfl,rx⟩:=f6 r;cases rx;have hn:=kl;rcases hq with hq|hq
 ·obtain⟨its,r',pl,hz⟩:=I.list hq;have hlen:=r'.length;exact Calls.call_len_list pl.isList (by simp only[size_toArray]<;>omega) ⟨.int ys.length,H,I.tok _,⟨s.toks+1,by rw[size_toArray,hlen]⟩,q⟩
 ·obtain⟨its,r',pl,hz⟩:=I.tuple hq;have hlen:=r'.length;exact len_tuple pl (by simp only[size_toArray]<;>omega) ⟨.int ys.length,H,I.tok _,⟨s.toks+1,by rw[size_toArray,hlen]⟩,q⟩
theorem nQ:dk X (.type "list") (λxs H Q=>∃p ys,xs=[.ref p]/\(SqL X.K H p ys\/SqT X.K H p ys)/\∀l,H l=none->Q (.ref l) (upd H l (.lst ys))):=by
 intro pins s σ H xs us Q I r h;obtain⟨p,ys,rfl,hq,q⟩:=h;obtain⟨u,rfl,rx⟩:=f6 r;cases rx;have fin:∀ (its:List Value),Vals ys its->ys.length<=sizeLine->∀ (h':Heap) (c':Nat),(∀b o',s.heap.get? b=some o'->h'.get? b=some o')->
   h'.get? s.heap.objs.size=some {cls:=.type "list",dict:=none,data:=.seq its.toArray c',slots:=#[]}->EP X pins σ Q (.ref s.heap.objs.size) {s with heap:=h'}:=λits r' hz h' c' kp e=>
  ⟨.ref s.heap.objs.size,_,I.laid (t':=s.toks) kp (le_refl _) (show ObjOk X.prog X.w _ h' _ (.lst ys)from⟨hz,its,c',r',e⟩),rfl,q _ (I.hok.fresh (le_refl _))⟩
 rcases hq with hq|hq
 ·obtain⟨its,r',pl,hz⟩:=I.list hq;have hlen:=r'.length;obtain⟨o,ho,hc,n,hd⟩:=pl.isList;exact call_list_seq p (.inl rfl) ho hc hd (λh' c' kp e=>fin its r' hz h' c' kp e) (by simp only[size_toArray]<;>omega)
 ·obtain⟨its,r',pl,hz⟩:=I.tuple hq;have hlen:=r'.length;obtain⟨o,ho,hc,n,hd⟩:=pl;exact call_list_seq p (.inr rfl) ho hc hd (λh' c' kp e=>fin its r' hz h' c' kp e) (by simp only[size_toArray]<;>omega)
theorem call_tuple_of:dk X (.type "tuple") (λxs H Q=>∃p ys,xs=[.ref p]/\((SqL X.K H p ys/\∀l,H l=none->Q (.ref l) (upd H l (.tup ys)))\/(SqT X.K H p ys/\Q (.ref p) H))):=by
 intro pins s σ H xs us Q I r h;obtain⟨p,ys,rfl,h⟩:=h;obtain⟨u,rfl,rx⟩:=f6 r;cases rx;rcases h with⟨hq,q⟩|⟨hq,q⟩
 ·obtain⟨its,r',pl,hz⟩:=I.list hq;have hlen:=r'.length;refine call_tuple_list pl.isList (λh' kp=>?_) (by simp only[size_toArray]<;>omega);have I1:Inv X pins σ H {s with heap:=h'}:=I.kept (t':=s.toks) kp;have I2:Inv X pins σ (upd H h'.objs.size (.tup ys)) {s with heap:=h'.push {cls:=.type "tuple",data:=.seq its.toArray}}:=
   I1.laid (t':=s.toks) (λb o e=>Heap.get?_push_of_some _ e) (le_refl _) (show ObjOk X.prog X.w _ _ _ (.tup ys)from⟨hz,its,r',IsTup.new _ _⟩)
  exact⟨.ref h'.objs.size,_,I2,rfl,q _ (I1.hok.fresh (le_refl _))⟩
 ·obtain⟨its,r',pl,hz⟩:=I.tuple hq;exact call_tuple_same pl ⟨.ref p,H,I,rfl,q⟩
def tyV (K:Frag) (T:String) (x:V) (H:Hp):Prop:=match x with
 |.str _=>T="str"
 |.int _=>T="int"
 |.ref p=>(T="list"/\∃xs,SqL K H p xs)\/(T="tuple"/\∃o,K.lookup p=some o/\o.cls=.type "tuple"/\o.dict=none)\/
  (T="dict"/\((∃kvs,H p=some (.dK kvs))\/∃kvs,H p=some (.dT kvs)))\/(T="set"/\∃S n,H p=some (.set S n))
 |_=>False
theorem wk {σ:St} (I:Inv X pins σ H s) (r:RelV x v) (ty:tyV X.K T x H):
  s.TypeIs v T/\∀a,v=.ref a->∃ob,s.heap.get? a=some ob/\ob.dict=none:=by
 cases x with
 |str z=>
  obtain⟨t,rfl⟩:=r;cases(show T="str"from ty);exact⟨typeIs_str s z t,λ_ e=>nomatch e⟩
 |int i=>
  obtain⟨t,rfl⟩:=r;cases(show T="int"from ty);exact⟨typeIs_int s i t,λ_ e=>nomatch e⟩
 |ref p=>
  cases r;rcases ty with⟨rfl,xs,hq⟩|⟨rfl,o,hk,hc,hd⟩|⟨rfl,hk⟩|⟨rfl,S,n,hk⟩
  ·obtain⟨its,_,pl,_⟩:=I.list hq;refine⟨pl.isList.typeIs,λa e=>?_⟩;cases e;obtain⟨o,n,e,c,hd,_⟩:=pl;exact⟨o,e,hd⟩
  ·refine⟨⟨o,I.kIn p o hk,hc⟩,λa e=>?_⟩;cases e;exact⟨o,I.kIn _ o hk,hd⟩
  ·have z:∃o,s.heap.get? p=some o/\o.ExactDict:=by
    rcases hk with⟨kvs,hk⟩|⟨kvs,hk⟩
    ·obtain⟨_,_,_,_,o,_,_,e,ex,_⟩:=I.hok p _ hk;exact⟨o,e,ex⟩
    ·obtain⟨_,_,_,_,o,_,_,e,ex,_⟩:=I.hok p _ hk;exact⟨o,e,ex⟩
   obtain⟨o,e,ex⟩:=z;refine⟨⟨o,e,ex.1⟩,λa e2=>?_⟩;cases e2;exact⟨o,e,ex.2.1⟩
  ·obtain⟨o,_,_,_,e,ex,_⟩:=I.hok p _ hk;refine⟨⟨o,e,ex.1⟩,λa e2=>?_⟩;cases e2;exact⟨o,e,ex.2.1⟩
 |_=>exact False.elim ty
def IX (K:Frag) (T:String) (r:V->List V->Hp->VK->Prop) (to:TE):TE:=λσ H Q=>to σ H λx H1=>tyV K T x H1/\r x [] H1 Q
def tBM (K:Frag) (T:String) (r:V->List V->Hp->VK->Prop) (to:TE) (t:TA):TE:=λσ H Q=>to σ H λx H1=>tyV K T x H1/\t σ H1 λxs H2=>r x xs H2 Q
variable {o e:Expr} {es:List Expr} {to:TE} {t:TA} {name:Str} {apos cpos:Pos} {T id:String} {r:V->List V->Hp->VK->Prop}
theorem C1 (pa:PlainAttrs T) (slot:Slot T name id) (hty:typeOf (.builtin id)=pure (.type "method_descriptor")) (hm:MtR X id r) (ho:PE X o to)
  (hbase:attributeBase o name X.env (eval o X.env)=eval o X.env:=by rfl) (hline:(apos.endLine==cpos.line)=true:=by rfl):PE X (.Call (.Attribute o name apos) [] [] cpos) (IX X.K T r to):=by
 intro pins s σ H Q I h
 refine wpAny_Call_method0_late hbase hline (thn (ho pins s σ H _ I h) λv s1 ⟨x,H1,I1,r1,ty,q1⟩=>?_)
 obtain⟨h1,h2⟩:=wk I1 r1 ty
 exact⟨T,id,pa,slot,hty,h1,h2,Calls.callWith_builtin rfl (PySem.evalArgs_none (hm pins s1 σ H1 x [] v [] Q I1 r1 .nil q1))⟩
theorem gP (pa:PlainAttrs T) (slot:Slot T name id) (hty:typeOf (.builtin id)=pure (.type "method_descriptor")) (hm:MtR X id r) (ho:PE X o to) (ha:PA X (e::es) t)
  (hbase:attributeBase o name X.env (eval o X.env)=eval o X.env:=by rfl)
  (hfew:((backTo cpos (starEach (e::es) X.env)).all (λx=>!x.1)&&(backToKw cpos (keywordEach [] X.env)).all (λx=>x.1.isSome)
   &&decide ((e::es).length+([]:List Keyword).length+(if([]:List Keyword).isEmpty then 0 else 1)<30))=true:=by rfl)
  (hline:(apos.endLine==cpos.line)=true:=by rfl) (hs:starEach (e::es) X.env=(false,eval e X.env)::starEach es X.env:=by rfl) (hplain:(backTo cpos (starEach es X.env)).any (·.1)=false:=by rfl):
  PE X (.Call (.Attribute o name apos) (e::es) [] cpos) (tBM X.K T r to t):=by
 intro pins s σ H Q I h
 refine wpAny_Call_method_late hbase hfew hline rfl (thn (ho pins s σ H _ I h) λv s1 ⟨x,H1,I1,r1,ty,q1⟩=>?_)
 obtain⟨h1,h2⟩:=wk I1 r1 ty
 refine⟨T,id,pa,slot,hty,h1,h2,?_⟩
 have hA:=ha cpos pins s1 σ H1 _ I1 q1
 rw[hs]at hA⊢
 refine Calls.callWith_builtin (by show(false||(backTo cpos (starEach es X.env)).any (·.1))=false;rw[hplain]<;>rfl) (Calls.evalArgs_plain ?_)
 exact thn hA λus s2 ⟨vs,H2,I2,r2,q2⟩=>hm pins s2 σ H2 x vs v us Q I2 r1 r2 q2
end
def MtM (X:Cx) (id:String) (r:V->List V->Hp->VK->Prop):Prop:=
 ∀ (pins:List (Addr×Obj)) (s:Shared) (σ:St) (H:Hp) (x:V) (xs:List V) (v:Value) (us:List Value) (Q:VK),Inv X pins σ H s->RelV x v->Vals xs us->r x xs H Q->
  wpAny (model X.prog X.w) X.A (call (.builtin id) (v::us)) (EP X pins σ Q) X.xe s
theorem Vals.one:∀ {x:V} {us:List Value},Vals [x] us->∃u,us=[u]/\RelV x u
 |_,_,.cons r .nil=>⟨_,rfl,r⟩
theorem Vals.zero:∀ {us:List Value},Vals [] us->us=[]
 |_,.nil=>rfl
theorem Vals.eraseIdx:∀ {xs:List V} {us:List Value} (i:Nat),Vals xs us->Vals (xs.eraseIdx i) (us.eraseIdx i)
 |_,_,_,.nil=>.nil
 |_,_,0,.cons _ t=>t
 |_,_,i+1,.cons r t=>.cons r (Vals.eraseIdx i t)
theorem Vals.reverse (h:Vals xs us):Vals xs.reverse us.reverse:=by
 induction h with
 |nil=>exact .nil
 |cons r t ih=>rw[List.reverse_cons,List.reverse_cons];exact Vals.append ih (.cons r .nil)
theorem mX {α:Type}:∀ (l:List α) (i:Nat),(l.eraseIdx i).length<=l.length
 |[],_=>le_refl _
 |_::_,0=>Nat.le_succ _
 |_::r,i+1=>Nat.succ_le_succ (mX r i)
section
variable {X:Cx} {pins:List (Addr×Obj)} {σ:St} {H:Hp} {s:Shared} {l b:Addr} {xs ys zs:List V}
theorem Inv.lset {its its':List Value} (I:Inv X pins σ H s) (hH:H l=some (.lst xs)) (e:s.heap.get? l=some {cls:=.type "list",data:=.seq its.toArray n}) (hf:f its.toArray=its'.toArray) (hv:Vals ys its') (hz:ys.length<=sizeLine):
  Inv X pins σ (upd H l (.lst ys)) {s with heap:=s.heap.update l (Obj.mapSeq f),toks:=t'}:=by
 have q:=PySem.IsL.update e f
 rw[hf]at q
 refine I.write (x:=l) (e:=l) (by rw[hH];exact trivial) (.inl rfl) (λb' u hb hu=>(Heap.get?_update_other s.heap (Obj.mapSeq f) (Ne.symm hb)).trans hu) ⟨_,q⟩ ?_
 exact⟨hz,its',_,hv,q⟩
theorem Inv.lnew (I:Inv X pins σ H s) (hv:Vals ys its) (hz:ys.length<=sizeLine):
  Inv X pins σ (upd H s.heap.objs.size (.lst ys)) {s with heap:=s.heap.push {cls:=.type "list",data:=.seq its.toArray},toks:=t'}:=
 I.laid (λ_ _ q=>Heap.get?_push_of_some _ q) (le_refl _) ⟨hz,its,0,hv,Heap.get?_push_size _ rfl⟩
theorem Inv.fresh (I:Inv X pins σ H s):H s.heap.objs.size=none:=I.hok.fresh (le_refl _)
theorem Inv.lstM (I:Inv X pins σ H s) (hH:H l=some (.lst xs)):xs.length<=sizeLine/\∃ (its:List Value) (n:Nat),Vals xs its/\xs.length=its.length/\s.heap.get? l=some {cls:=.type "list",data:=.seq its.toArray n}:=by
 obtain⟨z,its,n,r,e⟩:=I.hok l _ hH;exact⟨z,its,n,r,r.length,e⟩
theorem wm (h:n<=sizeLine):Builtin.List.listTooLong n=false:=by
 unfold Builtin.List.listTooLong;exact decide_eq_false (by omega)
end
section
variable {X:Cx}
def z7:V->List V->Hp->VK->Prop:=λx vs H Q=>∃l xs y,x=.ref l/\vs=[y]/\H l=some (.lst xs)/\xs.length<sizeLine/\Q .non (upd H l (.lst (xs++[y])))
theorem iH:MtM X "list.append" z7:=by
 intro pins s σ H x vs v us Q I rx rv h;obtain⟨l,xs,y,rfl,rfl,hH,hz,q⟩:=h;cases rx;obtain⟨u,rfl,ru⟩:=rv.one;obtain⟨z,its,n,r,hl,e⟩:=I.lstM hH;refine call_meets F.slot_list_append ⟨_,e,rfl⟩ F.entry_list_append (F.args_list_append_2 _ _) (PySem.list_append l its.toArray n u (by rw[size_toArray];omega)) ⟨e,?_⟩;refine⟨.non,_,I.lset (its':=its++[u]) hH e (by simp) (r.append (.cons ru .nil)) ?_,rfl,q⟩;rw[length_append,List.length_singleton];omega
def C2:V->List V->Hp->VK->Prop:=λx vs H Q=>∃l xs i k y,x=.ref l/\vs=[.int i]/\H l=some (.lst xs)/\ -(2^63)<=i/\i<2^63/\seqIndex? i xs.length=some k/\xs[k]?=some y/\Q y (upd H l (.lst (xs.eraseIdx k)))
theorem pz:MtM X "list.pop" C2:=by
 intro pins s σ H x vs v us Q I rx rv h;obtain⟨l,xs,i,k,y,rfl,rfl,hH,h1,h2,hk,hy,q⟩:=h;cases rx;obtain⟨u,rfl,ru⟩:=rv.one;obtain⟨t,rfl⟩:=ru;obtain⟨z,its,n,r,hl,e⟩:=I.lstM hH;obtain⟨w,hw,rw'⟩:=r.get hy;refine call_meets F.slot_list_pop ⟨_,e,rfl⟩ F.entry_list_pop (F.args_list_pop_2 _ _)
  (MeetsSeq.list_pop_at l its.toArray n i t k w (fitsIndex_both h1 h2) (by rw[size_toArray,<-hl];exact hk) (by rw[<-Array.getElem?_toList];exact hw) (by rw[size_toArray];omega)) ⟨e,?_⟩
 refine⟨y,_,I.lset (its':=its.eraseIdx k) hH e ?_ (r.eraseIdx k) ?_,rw',q⟩
 ·show its.toArray.eraseIdxIfInBounds k=(its.eraseIdx k).toArray;rw[List.eraseIdxIfInBounds_toArray]
 ·have:=mX xs k;omega
def wn:V->List V->Hp->VK->Prop:=λx vs H Q=>∃l xs,x=.ref l/\vs=[]/\H l=some (.lst xs)/\Q .non (upd H l (.lst xs.reverse))
theorem qU:MtM X "list.reverse" wn:=by
 intro pins s σ H x vs v us Q I rx rv h;obtain⟨l,xs,rfl,rfl,hH,q⟩:=h;cases rx;have hus:=rv.zero;subst hus;obtain⟨z,its,n,r,hl,e⟩:=I.lstM hH;refine call_meets F.slot_list_reverse ⟨_,e,rfl⟩ F.entry_list_reverse (F.args_list_reverse_1 _) (AutoSeq1.list_reverse_list_0 l its.toArray n (by rw[size_toArray];omega)) ⟨e,?_⟩;refine⟨.non,_,I.lset (its':=its.reverse) hH e (by simp) r.reverse ?_,rfl,q⟩;rw[List.length_reverse];omega
end
section
variable {prog:Program} {w:World} {A:Around} {E:Value->Shared->Prop} {s:Shared}
set_option maxRecDepth 100000 in
end
section
variable {X:Cx}
end
end L2
namespace Att
open PySem PySem.W PySem.Calls PyProof.Rows
theorem jK:∀ (ns:List Int) (vs:List Value),WellAll P h vs (ns.map WData.int)->IntsAre vs ns:=by
 intro ns;induction ns with
 |nil=>
  intro vs w;rw[List.map_nil]at w;cases w;exact .nil
 |cons n ns ih=>
  intro vs w;rw[List.map_cons]at w;cases w with
  |cons a b=>
   cases a;exact .cons _ _ (ih _ b)
theorem uL {l:OpenLaw} (hn:l.most=some n) (hpre:l.row.toRowW.claim.pre args=true) (hwl:WellAll P h vals args):
  ∃a vs ns,vals=[Value.ref a]/\args=[WData.list (ns.map WData.int)]/\h.get? a=some {cls:=.type "list",data:=.seq vs.toArray}/\IntsAre vs ns/\ns.length<=n:=by
 have hsh:WShape.hasAll [] args [.list .int]=true:=(pre_splitW hpre).1
 have hc:l.pre.holds [] {args:=args}=true:=(pre_splitW hpre).2
 obtain⟨d,r,rfl,h1,h2⟩:=hasAllW_cons hsh
 obtain rfl:=hasAllW_nil h2
 obtain⟨xs,rfl,h3⟩:=hasW_list h1
 obtain⟨ns,rfl⟩:=items_int h3
 have hlen:ns.length<=n:=by
  unfold OpenLaw.pre at hc;have h4:(WTm.not (.lt (.lit (.int (n:Int))) (.len (.arg 0)))).holds [] {args:=[.list (ns.map .int)]}=true:=by
   have h4:=(holds_andW hc).1;rw[hn]at h4;exact h4
  have h5:=condW_of h4 (w_not (w_lt w_lit (w_len_list (w_arg rfl))));rw[length_map]at h5;refine Nat.le_of_not_lt λq=>?_;have q':(n:Int)<((ns.length:Nat):Int):=by omega
  first
   |(rw[decide_eq_true q']at h5;exact absurd h5 (by decide))
   |(simp at h5;omega)
 cases hwl with
 |cons w1 w2=>
  cases w2;cases w1 with
  |list ho hall=>exact⟨_,_,ns,rfl,rfl,ho,jK ns _ hall,hlen⟩
theorem uM (l:OpenLaw) (args:List WData):l.row.toRowW.claim.post args (.bool true) args=true:=
 postW_of (r:=l.row.toRowW) (X:=(true==true))
  (show WShape.has [] (.bool true) .bool=true by first|rfl|decide|simp[WShape.has,WShape.arms,WShape.armsAll])
  (show(WTm.eq .res (.lit (.bool true))).value [] {args:=args,res:=some (.bool true),after:=args}=some (.bool (true==true))from w_eq_bool (w_res rfl) w_lit) rfl
theorem attach_call {l:OpenLaw} (hn:l.most=some n) (hdf:d.params.defaults=[]) (call:∀ (w:World) (s₀ s₁:Shared) (mg mb:Str->Option Value) (fa:Addr) (o:Obj) (pm cd doc:Value) (a:Addr) (vs:List Value) (ns:List Int),
   Ground q loose [] XP w s₀ mg mb s₁.heap->YP w s₁.heap->
   s₁.heap.get? fa=some o->o.data=.func (docDef d.name d.params d.body d.scope pm cd doc)->s₁.heap.CodeRec cd d.name->mg d.name=some (.ref fa)->
   s₁.heap.get? a=some {cls:=.type "list",data:=.seq vs.toArray}->IntsAre vs ns->ns.length<=n->s₁.gens=#[]->
   codeAny (model l.prog w) callerA (.call (.ref fa) ⟨[.ref a],[]⟩) (λr s'=>r=.ok (.ret (.bool true))/\OldK s₁.heap s'.heap/\s'.os=s₁.os/\AllBare s'.gens) s₁):
  WalkO q loose XP YP l.row.toRowW d [] (λf vs=>PySem.call f vs):=by
 intro w s₀ s₁ mg mb G ρ fa o pm cd doc dV kV ho hd hcd hD hmg hg args vals as hpre hlay hrd hwl hlo
 obtain rfl:dV=.none:=Dflts.none hD hdf
 obtain rfl:kV=.none:=Dflts.noKw hD
 obtain⟨a,vs,ns,rfl,rfl,hobj,hints,hlen⟩:=uL hn hpre hwl
 refine enter_call (codeAny_mono (call w s₀ s₁ mg mb fa o pm cd doc a vs ns G ρ ho (fd_plain hd) hcd hmg hobj hints hlen hg) λr s' hq=>?_)
 obtain⟨rfl,h2,h3,h4⟩:=hq
 exact⟨.inl ⟨.bool true,.bool true,[],rfl,λ_=>rfl,.bool true,uM l _,λ_=>⟨List.Pairwise.nil,λ_ hm=>(nomatch hm)⟩⟩,h2,h3,h4⟩
section
variable {prog:Program} {w:World} {A:Around} {E:Value->Shared->Prop} {s:Shared} {K:Frag}
end
end Att
namespace L2
open PySem PySem.Spec PyProof.Rows
theorem mY:∀ {vs:List Value} {ns:List Int},IntsAre vs ns->Vals (ns.map V.int) vs
 |_,_,.nil=>.nil
 |_,_,.cons n t h=>.cons ⟨t,rfl⟩ (mY h)
def C3 (H:Hp):Prop:=∀b,H b=none\/∃o xs,H b=some (.frz o (.lst xs))
theorem wo {K} (KX:K.In s₁.heap) (hns:s₁.heap.Ns mainGlobals mg) (hb:s₁.heap.Ns builtinsNs mb) (hbb:∀x:Str,x≠"__name__" ->mb x=bootBuiltins x) (hlim:s₁.heap.NoLimit) (hg:s₁.gens=#[]) (ha:s₁.heap.get? a=some {cls:=.type "list",data:=.seq vs.toArray}) (hi:IntsAre vs ns) (hl:ns.length<=sizeLine) (hr:Room k callerA) (F:∀base:Heap,K.In base->base.Ns mainGlobals mg->FnOk P w K mg base CX k fa fd [x] sp) (hbind:∀ (s:Shared) (u:Value),BindsTo s fd ⟨[u],[]⟩ [(x,u)]) (hsp:∀H:Hp,C3 H->SqL K H a (ns.map V.int)->sp [.ref a] H (λv _=>v=.bl true) λ_ _ _=>False) (hCX:∀H e s',CX [] H s₁ (λ_ _ _=>False) e s'->False):
  codeAny (model P w) callerA (.call (.ref fa) ⟨[.ref a],[]⟩) (λr s'=>r=.ok (.ret (.bool true))/\OldK s₁.heap s'.heap/\s'.os=s₁.os/\AllBare s'.gens) s₁:=by
 have rv:=mY hi
 have lenV:=hi.length
 -- from an abstract heap in which nothing but the script may be tracked
 have core:∀H:Hp,C3 H->SqL K H a (ns.map V.int)->HOk P w H s₁.heap->(∀b,H b≠none->b=a)->(H a≠none->K.lookup a=none)->
   codeAny (model P w) callerA (.call (.ref fa) ⟨[.ref a],[]⟩) (λr s'=>r=.ok (.ret (.bool true))/\OldK s₁.heap s'.heap/\s'.os=s₁.os/\AllBare s'.gens) s₁:=by
  intro H hO hS hok hA hK
  have base_of:∀ {b:Addr} {o:Obj},s₁.heap.get? b=some o->H b=none->(nK s₁.heap H).get? b=some o:=λe n=>vM e n
  have noA:∀ {b:Addr} {o:Obj} {es:Array DictEntry} {ep:Nat},s₁.heap.get? b=some o->o.data=.dict es ep->H b=none:=λ{b o es ep} e d=>by
   cases q:H b with
   |none=>rfl
   |some u=>
    have e':b=a:=hA b (by rw[q];simp)
    subst e'
    rw[ha]at e;cases e
    have d':Data.seq vs.toArray _=Data.dict es ep:=d
    cases d'
  have nsK:∀ {b:Addr} {m:Str->Option Value},s₁.heap.Ns b m->(nK s₁.heap H).Ns b m:=λ{b m} ⟨o,es,ep,e,d,r⟩=>⟨o,es,ep,base_of e (noA e d),d,r⟩
  have hKb:K.In (nK s₁.heap H):=λb o e=>base_of (KX b o e) (by
   cases q:H b with
   |none=>rfl
   |some u=>
    have e':b=a:=hA b (by rw[q];simp)
    subst e'
    rw[hK (by rw[q];simp)]at e;cases e)
  have hM:Mod K mg (nK s₁.heap H):=⟨hKb,nsK hns,⟨mb,nsK hb,hbb⟩,let⟨mc,h1,h2⟩:=hlim;⟨mc,nsK h1,h2⟩⟩
  have e0:Env0 P w K mg (nK s₁.heap H) callerA [] s₁ H:=⟨rfl,hM,λb o e=>zO e,Nat.le_of_eq (uD _ _),trivial,λb hb=>absurd (show b∈([]:List Addr)from hb) (by simp),hok,.of_eq hg⟩
  refine codeAny_mono ((F _ hKb (nsK hns)).run callerA [] s₁ H ⟨[.ref a],[]⟩ [.ref a] [.ref a] _ _ hr e0 (hbind s₁ (.ref a)) (.cons rfl .nil) (hsp H hO hS)) λr s' h=>?_
  cases r with
  |error e=>exact(hCX H e s' h).elim
  |ok fl=>
   cases fl with
   |next=>exact False.elim h
   |brk=>exact False.elim h
   |cont=>exact False.elim h
   |ret u=>
    obtain⟨v,H',os,bare,un,hok',r',q⟩:=h
    have q':v=.bl true:=q
    subst q'
    obtain rfl:u=Value.bool true:=r'
    refine⟨rfl,OldK.of_keep λb o e=>?_,os,bare⟩
    cases q:H b with
    |none=>exact un.keep b o e q (by intro z;exact absurd (show b∈([]:List Addr)from z) (by simp)) (by simp)
    |some u=>
     rcases hO b with z|⟨ob,xs,z⟩
     ·rw[q]at z;cases z
     ·have z2:=un.frzs b ob _ z
      obtain⟨e1,_⟩:=hok b _ z
      obtain⟨e2,_⟩:=hok' b _ z2
      rw[e]at e1;cases e1
      exact e2
 cases hk:K.lookup a with
 |some o=>
  -- the script is one of the module's own objects
  have e:=KX a o hk
  rw[ha]at e
  cases e
  refine core (λ_=>none) (λ_=>.inl rfl) (.inr ⟨_,vs.toArray,_,hk,rfl,rfl,rfl,by rw[size_toArray,lenV];exact hl,by simpa using rv⟩) (λb u z=>by have z':(none:Option HO)=some u:=z;cases z') (λb z=>absurd rfl z) λz=>absurd rfl z
 |none=>
  refine core (λb=>if b=a then some (.frz {cls:=.type "list",data:=.seq vs.toArray} (.lst (ns.map V.int)))else none) (λb=>?_) (.inl (.inr ⟨{cls:=.type "list",data:=.seq vs.toArray},if_pos rfl⟩)) (λb u z=>?_) (λb z=>?_) λ_=>hk
  ·by_cases hb:b=a
   ·exact .inr ⟨_,_,if_pos hb⟩
   ·exact .inl (if_neg hb)
  ·by_cases hb:b=a
   ·have z':=(if_pos hb).symm.trans z
    cases z'
    subst hb
    exact⟨ha,by rw[length_map];exact hl,vs,_,rv,ha⟩
   ·have z':=(if_neg hb).symm.trans z
    cases z'
  ·by_cases hb:b=a
   ·exact hb
   ·exact absurd (if_neg hb) z
theorem walk_of {l:PySem.W.OpenLaw} {K:Params->Frag} {CX:World->CXT} {sp:World->Sp} (hn:l.most=some n) (hn2:n<=sizeLine) (hdf:d.params.defaults=[]) (hr:Room k callerA) (hY:∀ (w:World) (h:Heap),YP w h->(K w.params).In h) (F:∀ (w:World) (mg:Str->Option Value) (fa:Addr) (h:Heap),(K w.params).In h->h.Ns mainGlobals mg->mg d.name=some (.ref fa)->
   ∃fd:FuncData,(∀ (s:Shared) (u:Value),BindsTo s fd ⟨[u],[]⟩ [(x,u)])/\
    ∀base:Heap,(K w.params).In base->base.Ns mainGlobals mg->FnOk l.prog w (K w.params) mg base (CX w) k fa fd [x] (sp w)) (hsp:∀ (w:World) (H:Hp) (a:Addr) (ns:List Int),ns.length<=n->C3 H->SqL (K w.params) H a (ns.map V.int)->sp w [.ref a] H (λv _=>v=.bl true) λ_ _ _=>False) (hCX:∀ (w:World) (H:Hp) (s:Shared) (e:Value) (s':Shared),CX w [] H s (λ_ _ _=>False) e s'->False):
  PySem.W.WalkO q loose XP YP l.row.toRowW d [] (λf vs=>PySem.call f vs):=by
 refine Att.attach_call hn hdf λw s₀ s₁ mg mb fa o pm cd doc a vs ns G ρ ho hd hcd hmg hobj hints hlen hg=>?_
 have KX:=hY w _ ρ
 obtain⟨fd,hb,hF⟩:=F w mg fa _ KX G.T.g hmg
 exact wo KX G.T.g G.T.b G.T.builtins G.T.nolimit hg hobj hints (Nat.le_trans hlen hn2) hr hF hb (λH hO hS=>hsp w H a ns hlen hO hS) λH e s'=>hCX w H s₁ e s'
def z8 (s:Stmt) (j:Nat):Stmt:=match s with
 |.ClassDef _ _ _ body _ _ _ _ _ _ _=>body.getD j (.Pass ⟨0,0,0,0⟩)
 |_=>.Pass ⟨0,0,0,0⟩
def bN (s:Stmt):Arguments:=match s with
 |.FunctionDef _ a _ _ _ _ _ _ _ _=>a
 |_=>{posonlyargs:=[],args:=[],vararg:=none,kwonlyargs:=[],kw_defaults:=[],kwarg:=none,defaults:=[]}
def aJ (s:Stmt):List Stmt:=match s with
 |.FunctionDef _ _ b _ _ _ _ _ _ _=>b
 |_=>[]
def am (s:Stmt):Scope:=match s with
 |.FunctionDef _ _ _ _ _ _ sc _ _ _=>sc
 |_=>{kind:=.function,names:=[],isGenerator:=false,isCoroutine:=false}
abbrev CX0:CXT:=λ_ _ _ _ _ _=>False
abbrev E0:XK:=λ_ _ _=>False
theorem wq:km CX0 X E0:=λ_ _ _ _ _ _ _ h=>h.elim
structure Fun (K:Frag) (x qual:Str) (st:Stmt) (f:Addr) (fd:FuncData):Prop where
 ex:∃ (oc:Value) (od:Option Addr) (kV doc pm:Value) (an:Option Addr) (cdv ct:Value) (osl:Array (Option Value)),
  fd=PySem.W.fnOf x qual (bN st) (aJ st) (am st) .none kV doc pm an cdv ct/\K.lookup f=some ⟨oc,od,.func fd,osl⟩/\PySem.W.codeIn K cdv qual=true
 kp:PySem.W.keepIn K (.ref f)=true
section
variable {P:Program} {w:World} {K:Frag} {mg:Str->Option Value} {base:Heap}
theorem Fun.ok {st} (F:Fun K x qual st f fd) (S:FnScope N ps (am st)) (len:∀vs H Q E,sp vs H Q E->vs.length=ps.length) (hbody:∀ (cdv:Value) (A:Around) (outer:List Env) (s:Shared) (H:Hp) (vs:List V) (Q:VK) (E:XK),Room k (A.deeper (envOfC qual (am st) s.heap.objs.size f cdv))->sp vs H Q E->
  ∃t,PSs (nM CX0 P w K mg base N qual (am st) f cdv A outer s H E).nox (aJ st) t/\t {nx:=λ_ H'=>Q .non H',rt:=Q} (eW N vs) H):FnOk P w K mg base CX0 (k+1) f fd ps sp:=by
 obtain⟨oc,od,kV,doc,pm,an,cdv,ct,osl,rfl,lk,hcd⟩:=F.ex
 refine FL lk hcd S len λA outer s H vs Q E hr hsp=>?_
 obtain⟨t,h,q⟩:=hbody cdv A outer s H vs Q E hr hsp
 exact⟨t,h.nox,q⟩
theorem Fun.binds {st} (F:Fun K x qual st f fd) (h:∀ (kV doc pm:Value) (an:Option Addr) (cdv ct:Value) (us:List Value),us.length=ps.length->bindArgs (PySem.W.fnOf x qual (bN st) (aJ st) (am st) .none kV doc pm an cdv ct) ⟨us,[]⟩=pure (ps.zip us)):Binds K fd ps []:=by
 obtain⟨oc,od,kV,doc,pm,an,cdv,ct,osl,rfl,lk,hcd⟩:=F.ex;exact .all (h kV doc pm an cdv ct)
theorem qV {st} {kV doc pm cdv ct} (l:K.lookup f=some ⟨oc,od,.func (PySem.W.fnOf x qual (bN st) (aJ st) (am st) .none kV doc pm an cdv ct),osl⟩) (c:PySem.W.codeIn K cdv qual=true) (k:PySem.W.keepIn K (.ref f)=true):Fun K x qual st f (PySem.W.fnOf x qual (bN st) (aJ st) (am st) .none kV doc pm an cdv ct):=⟨⟨oc,od,kV,doc,pm,an,cdv,ct,osl,rfl,l,c⟩,k⟩
end
section
variable {X:Cx}
end
theorem C4 {A B:Prop} (h:B):if false=true then A else B:=by
 rw[if_neg Bool.false_ne_true];exact h
theorem C5 {A B:Prop} (h:A):if true=true then A else B:=by
 rw[if_pos rfl];exact h
def Same (H H':Hp):Prop:=∀b o,H b=some o->H' b=some o
theorem Same.refl (H:Hp):Same H H:=λ_ _ h=>h
theorem Same.trans (a:Same H H1) (b:Same H1 H2):Same H H2:=λc o h=>b c o (a c o h)
theorem Same.free (e:Same H H') (h:H' l=Option.none):H l=Option.none:=by
 cases q:H l with
 |none=>rfl
 |some o=>
  rw[e l o q]at h;cases h
theorem Same.seq {K} (e:Same H H') (h:SqL K H a xs):SqL K H' a xs:=by
 rcases h with(h|⟨o,h⟩)|h
 ·exact .inl (.inl (e _ _ h))
 ·exact .inl (.inr ⟨o,e _ _ h⟩)
 ·exact .inr h
end L2
set_option maxHeartbeats 4000000
noncomputable section
namespace L2
open PySem PySem.Spec PyProof.Rows
theorem PE.imp (h:PE X e t) (k:∀σ H Q,t' σ H Q->t σ H Q):PE X e t':=λpins s σ H Q I q=>h pins s σ H Q I (k _ _ _ q)
theorem PT.imp (h:PT X e t) (k:∀σ H Q,t' σ H Q->t σ H Q):PT X e t':=λpins s σ H Q I q=>h pins s σ H Q I (k _ _ _ q)
theorem PA.imp (h:PA X e t) (k:∀σ H Q,t' σ H Q->t σ H Q):PA X e t':=λpos pins s σ H Q I q=>h pos pins s σ H Q I (k _ _ _ q)
theorem PS.imp {st} (h:PS X st t) (k:∀D σ H,t' D σ H->t D σ H):PS X st t':=λpins s σ H D I q=>h pins s σ H D I (k _ _ _ q)
theorem PSs.imp {st} (h:PSs X st t) (k:∀D σ H,t' D σ H->t D σ H):PSs X st t':=λpins s σ H D I q=>h pins s σ H D I (k _ _ _ q)
theorem PI.imp (h:PI X tg iter t) (k:∀σ H R,t' σ H R->t σ H R):PI X tg iter t':=λpins s σ H R I q=>h pins s σ H R I (k _ _ _ q)
theorem PG.imp (h:PG X tg t) (k:∀v σ H Q,t' v σ H Q->t v σ H Q):PG X tg t':=λpins s σ H v u Q I r q=>h pins s σ H v u Q I r (k _ _ _ _ q)
theorem jq {α β:Type} {f:α->β->Sem (ForInStep β)} {g}:∀ (l:List α) (c:β),(∀x∈l,∀c,f x c=pure (.yield (g c x)))->forIn l c f=pure (l.foldl g c)
 |[],_,_=>rfl
 |x::l,c,h=>by
  rw[List.forIn_cons,h x mem_cons_self,pure_bind];exact jq l _ λy hy=>h y (mem_cons_of_mem _ hy)
noncomputable def dU (env:Env) (cs:List (Str×Addr)) (x:Str×NameKind):List (Str×Addr):=if x.2==.free then(x.1,(env.cells.lookup x.1).getD 0)::cs else cs
abbrev nR (env:Env) (scope:Scope):List (Str×Addr):=scope.names.foldl (dU env) []
theorem eY (h:(k==NameKind.free)=true):k=.free:=by
 cases k<;>first|rfl|exact absurd h (by decide)
theorem ky (h:∀y∈scope.names,y.2=.free->∃c,env.cells.lookup y.1=some c):closureFor scope env=pure (nR env scope):=by
 simp only[closureFor];rw[jq (g:=dU env) scope.names [] (λx hx c=>by
  obtain⟨n,k⟩:=x;unfold dU;cases hk:(k==NameKind.free)with
  |false=>simp
  |true=>
   obtain⟨a,e⟩:=h (n,k) hx (eY hk);have e':env.cells.lookup n=some a:=e;simp[cellOf,e'])]
 rfl
theorem dm:∀ (l:List (Str×NameKind)) (cs:List (Str×Addr)),(∀x c,cs.lookup x=some c->env.cells.lookup x=some c)->(∀y∈l,y.2=.free->∃c,env.cells.lookup y.1=some c)->
  ∀x c,(l.foldl (dU env) cs).lookup x=some c->env.cells.lookup x=some c
 |[],_,h,_,x,c,e=>h x c e
 |(n,k)::l,cs,h,hl,x,c,e=>by
  refine dm l (dU env cs (n,k)) (λy d q=>?_) (λy hy=>hl y (mem_cons_of_mem _ hy)) x c e;unfold dU at q;cases hk:(k==NameKind.free)with
  |false=>rw[hk]at q;exact h y d (by simpa using q)
  |true=>
   rw[hk]at q;obtain⟨a,ea⟩:=hl (n,k) mem_cons_self (eY hk);have ea':env.cells.lookup n=some a:=ea;simp only[if_true,List.lookup_cons,ea',Option.getD_some]at q;cases hy:(y==n)with
   |true=>
    rw[hy]at q;have hyn:y=n:=by simpa using hy
    rw[hyn,ea'];exact q
   |false=>rw[hy]at q;exact h y d q
theorem gt:∀ (l:List (Str×NameKind)) (cs:List (Str×Addr)) (x:Str),((x,NameKind.free)∈l\/(cs.lookup x).isSome=true)->((l.foldl (dU env) cs).lookup x).isSome=true
 |[],_,_,h=>by
  rcases h with h|h
  ·cases h
  ·exact h
 |(n,k)::l,cs,x,h=>by
  refine gt l (dU env cs (n,k)) x ?_;rcases h with h|h
  ·rcases mem_cons.mp h with e|h
   ·cases e;refine .inr ?_;unfold dU;simp
   ·exact .inl h
  ·refine .inr ?_;unfold dU;split
   ·rw[List.lookup_cons];split
    ·rfl
    ·exact h
   ·exact h
theorem kz (h:(relabel scope env).names.lookup x=some k):∃k0,(x,k0)∈scope.names/\(k0=k\/(k0=.free/\k=.cell)):=by
 have h':(scope.names.map λ(n,k)=>if(k==NameKind.free&&env.scope.kind==.function&&env.kindOf n==some .cell)then(n,NameKind.cell)else(n,k)).lookup x=some k:=h;have hm:=PySem.mem_of_lookup h';obtain⟨⟨n,k0⟩,hn,e⟩:=List.mem_map.mp hm;by_cases hc:(k0==NameKind.free&&env.scope.kind==.function&&env.kindOf n==some .cell)=true
 ·have e':(n,NameKind.cell)=(x,k):=by
   have:=e;simp only[hc,if_true]at this;exact this
  cases e';have hf:k0=.free:=eY (by
   rw[and_eq_true,and_eq_true]at hc;exact hc.1.1)
  exact⟨k0,hn,.inr ⟨hf,rfl⟩⟩
 ·have e':(n,k0)=(x,k):=by
   have:=e;simp only[hc]at this;exact this
  cases e';exact⟨_,hn,.inl rfl⟩
noncomputable def cxC (X:Cx) (scope:Scope) (C:Addr) (s:Shared) (H:Hp) (fp:List Addr):Cx where
 prog:=X.prog
 w:=X.w
 K:=X.K
 mg:=X.mg
 base:=X.base
 A:=X.A
 N:=X.N
 s₀:=s
 H₀:=H
 env:=compEnvC scope (nR X.env scope) C X.env
 outer:=X.stack
 stack:=X.stack
 ex:=fp
 fn:=λ_=>false
 calm:=X.calm
 pn:=[]
 xe:=λ_ _=>False
structure CSc (X:Cx) (scope:Scope) (ks:List Nat):Prop where
 kind:scope.kind=.function
 nocell:∀y∈scope.names,y.2≠.cell
 names:∀y∈scope.names,y.2=.local->scope.names.lookup y.1=some .local
 free:∀y∈scope.names,y.2=.free->X.env.scope.names.lookup y.1=some .cell\/X.env.scope.names.lookup y.1=some .free
 own:∀ (i:Nat) (x:Str),X.N[i]?=some x->scope.names.lookup x=some .local->i∈ks
def c8 {α:Type} (ks:List Nat) (σ:List (Option α)):List (Option α):=ks.foldl (λσ k=>σ.set k none) σ
theorem gQ:∀ (ks:List Nat) (σ:List (Option α)),(c8 ks σ).length=σ.length
 |[],_=>rfl
 |k::ks,σ=>by
  show(c8 ks (σ.set k none)).length=_;rw[gQ ks];simp
theorem kA:∀ (ks:List Nat) (σ:List (Option α)) (i:Nat) (v:α),(c8 ks σ)[i]?=some (some v)->σ[i]?=some (some v)/\i ∉ ks
 |[],_,_,_,h=>⟨h,by simp⟩
 |k::ks,σ,i,v,h=>by
  obtain⟨h1,h2⟩:=kA ks (σ.set k none) i v h;by_cases hk:k=i
  ·subst hk;rw[List.getElem?_set]at h1;simp only[if_true]at h1;split at h1<;>simp at h1
  ·rw[List.getElem?_set_ne hk]at h1;exact⟨h1,by simp[h2,Ne.symm hk]⟩
theorem pC:∀ (ks:List Nat) (σ:List (Option α)) (i:Nat) (v:α),σ[i]?=some (some v)->i ∉ ks->(c8 ks σ)[i]?=some (some v)
 |[],_,_,_,h,_=>h
 |k::ks,σ,i,v,h,hn=>by
  refine pC ks (σ.set k none) i v ?_ λz=>hn (mem_cons_of_mem _ z);rw[List.getElem?_set_ne (λz=>hn (by simp[z]))];exact h
section
variable {X:Cx} {pins:List (Addr×Obj)} {σ:St} {H:Hp} {s:Shared} {fp:List Addr} {scope:Scope} {ks:List Nat} {C D:Addr}
theorem Inv.cells_of (I:Inv X pins σ H s) (S:CSc X scope ks):∀y∈scope.names,y.2=.free->∃c,X.env.cells.lookup y.1=some c:=λy hy hf=>I.ok.has y.1 (S.free y hy hf)
theorem qW (I:Inv X pins σ H s) (S:CSc X scope ks) (hf:∀b∈fp,gq X pins H b) (hlt:∀b∈fp,b<s.heap.objs.size) (hC:s.heap.objs.size<=C):(cxC X scope C s H fp).Ok where
 mod:=I.ok.mod
 kind:=S.kind
 glob:=I.ok.glob
 blt:=I.ok.blt
 above:=hC
 inj:=λx y c h1 h2=>I.ok.inj x y c (dm _ [] (λ_ _ z=>nomatch z) (I.cells_of S) x c h1) (dm _ [] (λ_ _ z=>nomatch z) (I.cells_of S) y c h2)
 has:=λx hx=>by
  have q:∃k,(relabel scope X.env).names.lookup x=some k/\(k=.cell\/k=.free):=by
   rcases hx with h|h
   ·exact⟨_,h,.inl rfl⟩
   ·exact⟨_,h,.inr rfl⟩
  obtain⟨k,hk,hc⟩:=q;obtain⟨k0,hm,h0⟩:=kz hk;have hfree:k0=.free:=by
   rcases h0 with rfl|⟨h,_⟩
   ·rcases hc with z|z
    ·exact absurd z (S.nocell _ hm)
    ·exact z
   ·exact h
  subst hfree;exact Option.isSome_iff_exists.mp (gt scope.names [] x (.inl hm))
 cab:=λ_ _ z=>absurd z Bool.false_ne_true
 hd:=I.ok.hd
 frames:=I.ok.frames
 stk:=.inl rfl
 exf:=λb hb=>⟨Nat.ne_of_lt (lt_of_lt_of_le (hlt b hb) hC),λx c e=>(hf b hb).2.2.2.2.1 x c (dm _ [] (λ_ _ z=>nomatch z) (I.cells_of S) x c e)⟩
 bs:=I.bs
 bsz:=Nat.le_trans I.ok.bsz I.sz
 noex:=λb o e hb=>by
  rcases(hf b hb).2.2.2.1 with z|z
  ·exact I.ok.noex b o e z
  ·exact absurd (lt_of_lt_of_le (lt_of_lt_of_le (Heap.lt_size e) I.ok.bsz) z) (Nat.lt_irrefl _)
 exfs:=λb hb hs=>by
  rcases mem_cons.mp (I.stkSub b hs)with z|z
  ·exact(hf b hb).2.1 z
  ·exact(hf b hb).2.2.1 z
 funs:=I.stack
 frf:=I.stkFree
theorem uN {its:List Value} (I:Inv X pins σ H s) (S:CSc X scope ks) (hf:∀b∈fp,gq X pins H b) (hlt:∀b∈fp,b<s.heap.objs.size) (hD:s.heap.objs.size<=D) (hC:s.heap.objs.size<=C) (hDC:D≠C) (old:∀b o,s.heap.get? b=some o->h₁.get? b=some o) (hns:h₁.Ns C m) (hacc:h₁.get? D=some {cls:=.type "list",data:=.seq its.toArray n}):
  Inv (cxC X scope C s H fp) [(D,{cls:=.type "list",data:=.seq its.toArray n})] (c8 ks σ) H {s with heap:=h₁,toks:=tk}:=by
 have cs:=dm scope.names [] (λ_ _ z=>nomatch z) (I.cells_of S)
 refine⟨qW I S hf hlt hC,rfl,I.bare,Un.kept old,⟨m,hns,λi x v hN hσ hv=>?_⟩,λx c e=>?_,I.hok.fresh hC,λx c e=>I.freeC x c (cs x c e),λp hp=>?_,I.hok.kept old,?_⟩
 ·obtain⟨h1,h2⟩:=kA ks σ i v hσ;have hv':∃k,(relabel scope X.env).names.lookup x=some k/\(k=.local\/k=.cell\/k=.free):=by
   rcases hv with h|h|h
   ·exact⟨_,h,.inl rfl⟩
   ·exact⟨_,h,.inr (.inl rfl)⟩
   ·exact⟨_,h,.inr (.inr rfl)⟩
  obtain⟨k,hk,hkk⟩:=hv';obtain⟨k0,hm,h0⟩:=kz hk;have hfree:k0=.free:=by
   rcases h0 with e|⟨h,_⟩
   ·subst e;rcases hkk with z|z|z
    ·exact absurd (S.own i x hN (S.names _ hm z)) h2
    ·exact absurd z (S.nocell _ hm)
    ·exact z
   ·exact h
  subst hfree;have hX:=S.free _ hm rfl;obtain⟨m0,hn0,hl0⟩:=I.loc;obtain⟨u,r,l⟩:=hl0 i x v hN h1 (by rcases hX with z|z;exact .inr (.inl z);exact .inr (.inr z));refine⟨u,r,.inr ⟨?_,?_⟩⟩
  ·have hk2:k=.cell\/k=.free:=by
    rcases h0 with e|⟨_,e⟩
    ·exact .inr e.symm
    ·exact .inl e
   rcases hk2 with e|e
   ·subst e;exact .inl hk
   ·subst e;exact .inr hk
  ·rcases l with⟨hloc,_⟩|⟨_,c,ec,hcell⟩
   ·have hloc':X.env.scope.names.lookup x=some .local:=hloc;rcases hX with z|z
    ·rw[hloc']at z;cases z
    ·rw[hloc']at z;cases z
   ·obtain⟨c',ec'⟩:=Option.isSome_iff_exists.mp (gt (env:=X.env) scope.names [] x (.inl hm));have e2:=cs x c' ec';rw[ec]at e2;cases e2;obtain⟨o,ho,hd⟩:=hcell;exact⟨c,ec',o,old c o ho,hd⟩
 ·obtain⟨v,o,ho,hd⟩:=I.cell x c (cs x c e);exact⟨v,o,old c o ho,hd⟩
 ·have e:p=(D,{cls:=.type "list",data:=.seq its.toArray n}):=by
   have hp':p∈[]++[(D,({cls:=.type "list",data:=.seq its.toArray n}:Obj))]:=hp;simpa using hp'
  subst e;refine⟨hacc,I.hok.fresh hD,hDC,λhb=>?_,λv z=>?_⟩
  ·rcases mem_cons.mp (I.stkSub D hb)with z|z
   ·exact absurd (lt_of_lt_of_le I.lt hD) (by rw[z];exact Nat.lt_irrefl _)
   ·exact I.nofs hD z
  ·have z':Data.seq its.toArray n=Data.cell v:=z;cases z'
 ·show(c8 ks σ).length=X.N.length;rw[gQ];exact I.len
theorem HOk.adopt (x:HOk P w H h) (hn:H a=none) (new:ObjOk P w (upd H a o) h a o):HOk P w (upd H a o) h:=λb u q=>by
 by_cases hb:b=a
 ·subst hb;rw[ah]at q;cases q;exact new
 ·rw[ag hb]at q;refine(x b u q).stay (λ_ _ _ z=>z) (λc z=>?_) λc xs z=>?_
  ·rw[ag (ak z hn)];exact z
  ·rw[ag (ak z hn)];exact z
theorem z9 {σ':St} (I:Inv X pins σ H s) (J:Inv (cxC X scope C s H fp) pl σ' H' s') (hf:∀b∈fp,gq X pins H b) (hD:s.heap.objs.size<=D) (hDn:H' D=none) (hacc:s'.heap.get? D=some {cls:=.type "list",data:=.seq its.toArray n}) (r:Vals ys its) (hz:ys.length<=sizeLine):Inv X pins σ (upd H' D (.lst ys)) s':=by
 have B:Un (frs X.stack) fp H H' s.heap s'.heap:=J.base;have ne:∀b o,s.heap.get? b=some o->b≠D:=λb o e=>Nat.ne_of_lt (lt_of_lt_of_le (Heap.lt_size e) hD);refine I.call' (ch:=fp) J.os ⟨B.keep,B.slot,λb o e q hx=>?_,B.there,λb xs q=>?_,λb o u q=>?_,λb ps q=>?_⟩ (J.hok.adopt hDn ⟨hz,its,n,r,hacc⟩) J.bare λb hb=>?_
 ·rw[ag (ne b o e)];exact B.free b o e q hx
 ·have z:=B.tups b xs q;rw[ag (ak z hDn)];exact z
 ·have z:=B.frzs b o u q;rw[ag (ak z hDn)];exact z
 ·obtain⟨more,z⟩:=B.tbls b ps q;exact⟨more,by rw[ag (ak z hDn)];exact z⟩
 ·obtain⟨_,f1,_,f3,f4,f5⟩:=hf b hb;exact⟨f3,f1,f4,f5⟩
end
noncomputable def PTs (X:Cx) (ifs:List Expr) (t:TT):Prop:=
 ∀ (pins:List (Addr×Obj)) (s:Shared) (σ:St) (H:Hp) (Q:Bool->Hp->Prop),Inv X pins σ H s->t σ H Q->
  wpAny (model X.prog X.w) X.A (forIn ifs true λc r=>if r=true then do let ok<-isTrue c X.env (eval c X.env);pure (ForInStep.yield ok)else pure (ForInStep.yield r)) (TP X pins σ Q) X.xe s
def IY:TT:=λ_ H Q=>Q true H
theorem pts_nil:PTs X [] IY:=λ_ _ _ H _ I h=>wpAny_tests_nil ⟨H,I,h⟩
theorem Aa (h:PT X c t):PTs X [c] t:=λpins s σ H Q I q=>wpAny_tests_one (h pins s σ H Q I q)
section
variable {prog:Program} {w:World} {A:Around} {R:Result->Shared->Prop} {s:Shared}
theorem qX (I:Nat->Shared->Prop) (turn:∀n s,I n s->wpAny (model prog w) A (pyNext it) (λr s1=>match r with
   |none=>R (.ok .next) s1
   |some v=>wpAny (model prog w) A (letOwnedTupleGo tg it v) (λ_ s2=>wpAny (model prog w) A (assign tg env v) (λ_ s3=>
    wpAny (model prog w) A (forIn ifs true λc r=>if r=true then do let ok<-isTrue c env (eval c env);pure (ForInStep.yield ok)else pure (ForInStep.yield r)) (λok s4=>
     if ok=true then wpAny (model prog w) A (eval elt env) (λx s5=>wpAny (model prog w) A (call (.builtin "list.append") [acc,x]) (λ_ s6=>∃m,m<n/\I m s6) (λ_ _=>False) s5) (λ_ _=>False) s4
     else∃m,m<n/\I m s4) (λ_ _=>False) s3) (λ_ _=>False) s2) (λ_ _=>False) s1) (λ_ _=>False) s) (n:Nat) (h:I n s):codeAny (model prog w) A (.compLoop (.ListComp elt [⟨tg,iter,ifs,0⟩] scope pos) 0 it acc env) R s:=by
 refine codeAny_loop rfl I (λk s' hI=>?_) n h
 show wpAny _ A ((compTurn (.ListComp elt [⟨tg,iter,ifs,0⟩] scope pos) 0 it acc env).onRaise (λx=>do noteFrame x env;theTreesLotGoes x)) _ _ s'
 refine wpAny_noted ?_
 rw[compTurn_list]
 refine wpAny_bind (wpAny_standAt (wpAny_bind (wpAny_mono (turn k s' hI) (λr s1 h1=>?_) λ_ _ z=>z.elim)))
 cases r with
 |none=>exact wpAny_pure h1
 |some v=>
  refine wpAny_bind (wpAny_mono h1 (λ_ s2 h2=>?_) λ_ _ z=>z.elim);refine wpAny_bind (wpAny_mono h2 (λ_ s3 h3=>?_) λ_ _ z=>z.elim);refine wpAny_bind (wpAny_mono h3 (λok s4 h4=>?_) λ_ _ z=>z.elim);cases ok with
  |false=>exact wpAny_pure ⟨rfl,h4⟩
  |true=>
   refine wpAny_bind (wpAny_bind (wpAny_mono h4 (λx s5 h5=>?_) λ_ _ z=>z.elim));exact wpAny_bind (wpAny_mono h5 (λ_ s6 h6=>wpAny_pure (wpAny_pure ⟨rfl,h6⟩)) λ_ _ z=>z.elim)
end
noncomputable def IZ (σ σ':St):Prop:=σ'.length=σ.length/\∀ (i:Nat) (v:V),σ[i]?=some (some v)->σ'[i]?=some (some v)
noncomputable def BZ (J:It) (ks:List Nat) (g:TG) (tt:TT) (te:TE) (σ:St) (Fin:List V->Hp->Prop) (W:Nat->Nat->List V->Hp->Prop):Prop:=∀i m ys H2,W i m ys H2->
 (J.stop i H2/\ys.length<=sizeLine/\Fin ys H2)\/
 (J.go i H2/\ys.length<sizeLine/\∀x H3,J.yld i H2 x H3->g x (c8 ks σ) H3 λσ4 H4=>IZ (c8 ks σ) σ4/\tt σ4 H4 λc H5=>
  if c=true then te σ4 H5 λy H6=>∃m',m'<m/\W (i+1) m' (ys++[y]) H6 else∃m',m'<m/\W (i+1) m' ys H5)
noncomputable def pD (wi:TI) (ks:List Nat) (g:TG) (tt:TT) (te:TE):TE:=λσ H Q=>wi σ H λJ H1=>∃W:Nat->Nat->List V->Hp->Prop,(∃m,W 0 m [] H1)/\
 BZ J ks g tt te σ (λys H2=>∀p,H2 p=none->Q (.ref p) (upd H2 p (.lst ys))) W
section
variable {X:Cx} {scope:Scope} {ks:List Nat} {tg elt iter:Expr} {ifs:List Expr} {g:TG} {tt:TT} {te:TE} {pos:Pos}
theorem kB {σ:St} {RR:Value->Addr->Result->Shared->Prop} {Fin} (hc:X.calm=true) (S:CSc X scope ks) (I2:Inv X pins σ H2 s2) (T:Turn X.prog X.w X.K tg J fp it tn) (st:tn 0 s2.heap) (f2:∀b∈fp,gq X pins H2 b) (hg:∀C s H,PG (cxC X scope C s H fp) tg g) (htt:∀C s H,PTs (cxC X scope C s H fp) ifs tt) (he:∀C s H,PE (cxC X scope C s H fp) elt te) (w0:∃m,W 0 m [] H2) (turn:BZ J ks g tt te σ Fin W) (hR:∀D C H3 s3 m ys,Inv X pins σ (upd H3 D (.lst ys)) s3->H3 D=none->upd H3 D (.lst ys) C=none->C≠X.env.locals->s2.heap.objs.size<=C->s3.heap.Ns C m->Fin ys H3->RR (.ref D) C (.ok .next) s3):
  wpAny (model X.prog X.w) X.A (newList []) (λacc s₃=>wpAny (model X.prog X.w) X.A (newFunctionEnv scope X.env.globals (nR X.env scope) [] X.env.qual none .none (some X.env)) (λcenv s₄=>
   codeAny (model X.prog X.w) X.A (.compStart (.ListComp elt [⟨tg,iter,ifs,0⟩] scope pos) 0 (.ref it) acc {cenv with scope:=relabel scope X.env}) (RR acc cenv.locals) s₄) E s₃) E s2:=by
 have hlt:∀b∈fp,b<s2.heap.objs.size:=λb hb=>by
  obtain⟨o,e,_⟩:=T.obj _ _ st b hb
  exact Heap.lt_size e
 refine wpAny_newObj_type (wpAny_newFunctionEnv S.nocell (by intro y hy;simp at hy) (λh₁ hns₁ hsb₁=>?_) S.kind)
 dsimp only at hns₁ hsb₁⊢
 generalize hH2:s2.heap.push {cls:=.type "list",dict:=none,data:=.seq ([]:List Value).toArray}=G at hns₁ hsb₁⊢
 have hCe:G.objs.size=s2.heap.objs.size+1:=by rw[<-hH2,Heap.size_push]
 have hDC:s2.heap.objs.size≠G.objs.size:=by rw[hCe];exact Nat.ne_of_lt (Nat.lt_succ_self _)
 have hC:s2.heap.objs.size<=G.objs.size:=by rw[hCe];exact Nat.le_succ _
 have old:∀b o,s2.heap.get? b=some o->h₁.get? b=some o:=λb o e=>
  hsb₁.extBut b o (Nat.ne_of_lt (lt_of_lt_of_le (Heap.lt_size e) hC)) (Heap.get?_push_of_some _ (hH2▸Heap.get?_push_of_some _ e))
 have hacc:h₁.get? s2.heap.objs.size=some {cls:=.type "list",data:=.seq ([]:List Value).toArray 0}:=hsb₁.extBut _ _ hDC (Heap.get?_push_of_some _ (hH2▸Heap.get?_push_size _ rfl))
 generalize hDn:s2.heap.objs.size=D at*
 generalize hCn:G.objs.size=C at*
 have st₁:tn 0 h₁:=T.keep _ _ _ st λb hb o e=>old b o e
 let ρ:=cxC X scope C s2 H2 fp
 have fpY:∀ {pl:List (Addr×Obj)} {H':Hp},(∀b∈fp,H' b=none)->(∀p∈pl,D<=p.1)->∀b∈fp,gq ρ pl H' b:=λ{pl H'} hn hp b hb=>by
  refine⟨hn b hb,Nat.ne_of_lt (lt_of_lt_of_le (hlt b hb) hC),λz=>?_,.inl hb,((qW I2 S f2 (hDn▸hlt) (hDn▸hC)).exf b hb).2,λp hq=>?_⟩
  ·exact(qW I2 S f2 (hDn▸hlt) (hDn▸hC)).exfs b hb z
  ·have hq':p∈[]++pl:=hq
   have:=hp p (by simpa using hq')
   exact Nat.ne_of_gt (lt_of_lt_of_le (hlt b hb) this)
 have loop:∀tk,codeAny (model X.prog X.w) X.A (.compLoop (.ListComp elt [⟨tg,iter,ifs,0⟩] scope pos) 0 (.ref it) (.ref D) (compEnvC scope (nR X.env scope) C X.env)) (RR (.ref D) C) {s2 with heap:=h₁,toks:=tk}:=λtk=>by
  obtain⟨m0,w0⟩:=w0
  refine qX (λn s'=>∃i ys its cap H',Inv ρ [(D,{cls:=.type "list",data:=.seq (List.toArray its) cap})] (c8 ks σ) H' s'/\Vals ys its/\tn i s'.heap/\(∀b∈fp,H' b=none)/\W i n ys H') ?_ m0
   ⟨0,[],[],0,H2,uN I2 S f2 (hDn▸hlt) (hDn▸le_refl _) (hDn▸hC) hDC old hns₁ hacc,.nil,st₁,λb hb=>(f2 b hb).1,w0⟩
  rintro n s3 ⟨i,ys,its,cap,H3,I3,rv,st3,fr3,w3⟩
  have pinD:∀p∈[(D,({cls:=.type "list",data:=.seq (List.toArray its) cap}:Obj))],D<=p.1:=λp hp=>by
   have e:p=(D,{cls:=.type "list",data:=.seq (List.toArray its) cap}):=by simpa using hp
   rw[e];exact le_refl _
  have hDpin:=I3.pin (D,{cls:=.type "list",data:=.seq (List.toArray its) cap}) (mem_append_right _ mem_cons_self)
  rcases turn i n ys H3 w3 with⟨stop,hz,fin⟩|⟨go,hz,step⟩
  ·refine thn (T.done ρ rfl rfl rfl hc i _ s3 _ H3 (λ_ _=>False) I3 (fpY fr3 pinD) st3 stop) λr s4 ⟨hr,I4⟩=>?_
   subst hr
   have hD4:=I4.pin (D,{cls:=.type "list",data:=.seq (List.toArray its) cap}) (mem_append_right _ mem_cons_self)
   obtain⟨m4,hn4,_⟩:=I4.loc
   have JX:=z9 (D:=D) (ys:=ys) (its:=its) (n:=cap) I2 I4 f2 (Nat.le_of_eq hDn) hD4.2.1 hD4.1 rv hz
   exact hR D C H3 s4 m4 ys JX hD4.2.1 (by rw[ag (Ne.symm hDC)];exact I4.free) (Nat.ne_of_gt (lt_of_lt_of_le I2.lt (hDn▸hC))) hC hn4 fin
  ·refine thn (T.item ρ rfl rfl rfl hc i _ s3 _ H3 (λ_ _=>False) I3 (fpY fr3 pinD) st3 go) λr s4 ⟨u,hr,h4⟩=>?_
   subst hr
   refine thn h4 λ_ s5 ⟨x,H5,I5,r5,y5,st5,fr5⟩=>?_
   have I5':=I5.pinned (fpY fr5 pinD) (T.obj _ _ st5)
   refine thn (hg C s2 H2 _ s5 _ H5 x u _ I5' r5 (step x H5 y5)) λ_ s6 ⟨σ6,H6,I6,kp,q6⟩=>?_
   refine thn (htt C s2 H2 _ s6 σ6 H6 _ I6 q6) λok s7 ⟨H7,I7,q7⟩=>?_
   -- the iterator's own objects stand
   have stay:∀ {H':Hp} {s':Shared},Inv ρ ([(D,({cls:=.type "list",data:=.seq (List.toArray its) cap}:Obj))]++kh fp s5.heap) σ6 H' s'->tn (i+1) s'.heap/\∀b∈fp,H' b=none:=λ{H' s'} I'=>by
    refine⟨T.keep _ _ _ st5 λb hb o e=>(I'.pin (b,o) (mem_append_right _ (mem_append_right _ (eI hb e)))).1,λb hb=>?_⟩
    obtain⟨o,e,_⟩:=T.obj _ _ st5 b hb
    exact(I'.pin (b,o) (mem_append_right _ (mem_append_right _ (eI hb e)))).2.1
   cases ok with
   |false=>
    obtain⟨m',hm,w7⟩:=q7
    obtain⟨t7,n7⟩:=stay I7
    exact⟨m',hm,i+1,ys,its,cap,H7,I7.unpinned.weak kp.1.symm kp.2,rv,t7,n7,w7⟩
   |true=>
    rw[if_pos rfl]
    refine thn (he C s2 H2 _ s7 σ6 H7 _ I7 q7) λy s8 ⟨yv,H8,I8,r8,m',hm,w8⟩=>?_
    obtain⟨t8,n8⟩:=stay I8
    have hD8:=I8.pin (D,{cls:=.type "list",data:=.seq (List.toArray its) cap}) (mem_append_right _ (mem_append_left _ mem_cons_self))
    have hlen:=rv.length
    refine append_at hD8.1 (λh9 sb hD9=>?_) (by rw[size_toArray];omega)
    have I9:Inv ρ [] σ6 H8 {s8 with heap:=h9,toks:=s8.toks}:=Inv.turned (it:=D) (I8.pins_of (pins':=[]) λp hp=>nomatch hp) (λb o hb e=>sb.extBut b o hb e) hD8.2.1 hD8.2.2.1 (.inr (Nat.le_of_eq hDn))
     (λx c e z=>by
      obtain⟨v,q⟩:=I8.cell x c e
      obtain⟨o,ho,hd⟩:=q
      rw[z,hD8.1]at ho
      cases ho
      exact hD8.2.2.2.2 v hd) (λp hp=>nomatch(show p∈([]:List (Addr×Obj))from hp))
    have e9:h9.get? D=some {cls:=.type "list",data:=.seq (List.toArray (its++[y])) (cap+1)}:=by
     rw[hD9];simp
    have I10:Inv ρ [(D,{cls:=.type "list",data:=.seq (List.toArray (its++[y])) (cap+1)})] σ6 H8 {s8 with heap:=h9,toks:=s8.toks}:=I9.pins_of λp hp=>by
     have e:p=(D,{cls:=.type "list",data:=.seq (List.toArray (its++[y])) (cap+1)}):=by simpa using hp
     subst e
     exact⟨e9,hD8.2.1,hD8.2.2.1,hD8.2.2.2.1,λv z=>by
      have z':Data.seq (List.toArray (its++[y])) (cap+1)=Data.cell v:=z
      cases z'⟩
    refine⟨m',hm,i+1,ys++[yv],its++[y],cap+1,H8,I10.weak kp.1.symm kp.2,rv.append (.cons r8 .nil),T.keep _ _ _ t8 λb hb o e=>sb.extBut b o (Nat.ne_of_lt (hlt b hb)) e,n8,w8⟩
 exact codeAny_compStart_list (loop _) (T.self _ 0 _ _ _ st₁ (loop _))
theorem Ab (hc:X.calm=true) (S:CSc X scope ks) (hi:PI X tg iter wi) (hg:∀C s H fp,PG (cxC X scope C s H fp) tg g) (htt:∀C s H fp,PTs (cxC X scope C s H fp) ifs tt) (he:∀C s H fp,PE (cxC X scope C s H fp) elt te) (hs:∀x,foldedSetIterable iter X.env x=pure x:=by intro _;rfl):PE X (.ListComp elt [⟨tg,iter,ifs,0⟩] scope pos) (pD wi ks g tt te):=by
 intro pins s σ H Q I h;rw[eval_ListComp];refine wpAny_comprehension_free (use:=none) rfl hs (ky (I.cells_of S)) S.kind S.names (thn (hi pins s σ H _ I h) λv s1 h1=>thn h1 λitv s2 h2=>?_);obtain⟨it,fp,tn,J,H2,e,I2,T,st2,f2,W,w0,turn⟩:=h2;subst e;refine kB hc S I2 T st2 f2 (λC s H=>hg C s H fp) (λC s H=>htt C s H fp) (λC s H=>he C s H fp) w0 turn ?_;intro D C H3 s3 m ys I3 hD hC hCL hCz hns fin;refine⟨m,hns,λh' sb=>?_⟩;refine⟨.ref D,upd H3 D (.lst ys),?_,rfl,fin D hD⟩;exact I3.turned (t':=s3.toks) (it:=C) (λb o hb e=>sb.extBut b o hb e) hC hCL (.inr (Nat.le_trans I2.sz hCz)) (λx c e z=>by
  obtain⟨v,o,ho,hd⟩:=I2.cell x c e;exact absurd (lt_of_lt_of_le (Heap.lt_size ho) hCz) (by rw[z];exact Nat.lt_irrefl _)) λp hp z=>absurd (lt_of_lt_of_le (Heap.lt_size (I2.pin p hp).1) hCz) (by rw[z];exact Nat.lt_irrefl _)
theorem Ac (hN:X.N.Nodup) (hx:X.N[i]?=some x) (hl:X.env.scope.names.lookup x=some .local) (hc:X.calm=true) (S:CSc X scope ks) (hi:PI X tg iter wi) (hg:∀C s H fp,PG (cxC X scope C s H fp) tg g) (htt:∀C s H fp,PTs (cxC X scope C s H fp) ifs tt) (he:∀C s H fp,PE (cxC X scope C s H fp) elt te) (hsw:swapsWith (.ListComp elt [⟨tg,iter,ifs,0⟩] scope pos) (some (.Name x px)) spos.line X.env=pure true) (hs:∀x,foldedSetIterable iter X.env x=pure x:=by intro _;rfl):PS X (.Assign [.Name x px] (.ListComp elt [⟨tg,iter,ifs,0⟩] scope pos) spos) (vR (pD wi ks g tt te) (pe i)):=by
 intro pins s σ H Q I h;rw[exec_Assign_Name_used _ _ _ _ hsw];refine wpAny_bind (wpAny_standAt (wpAny_bind ?_));show wpAny _ X.A (do let _<-comprehension (.ListComp elt [⟨tg,iter,ifs,0⟩] scope pos) scope X.env _ (newList []) false (eval iter X.env) (some (assign (.Name x px) X.env))) _ _ s;refine wpAny_bind (wpAny_mono (wpAny_comprehension_free (use:=some (assign (.Name x px) X.env)) (Q:=λ_ s'=>SP X pins Q .next s') rfl hs (ky (I.cells_of S)) S.kind S.names
  (thn (hi pins s σ H _ I h) λv s1 h1=>thn h1 λitv s2 h2=>?_)) (λ_ s' hq=>wpAny_pure (wpAny_pure hq)) λ_ _ e=>e)
 obtain⟨it,fp,tn,J,H2,e,I2,T,st2,f2,W,w0,turn⟩:=h2;subst e;refine kB hc S I2 T st2 f2 (λC s H=>hg C s H fp) (λC s H=>htt C s H fp) (λC s H=>he C s H fp) w0 turn ?_;intro D C H3 s3 m ys I3 hD hC hCL hCz hns fin;show wpAny _ X.A (assign (.Name x px) X.env (.ref D)) _ _ _;refine wpAny_assign_Name (mR (v:=.ref D) I3 hN hx (.inl hl) rfl (λs4 I4 ⟨a,sb,ha⟩=>?_) (.inr hl));have hCa:C≠a:=by
  rcases ha with z|z
  ·rw[z];exact hCL
  ·intro q;obtain⟨v,o,ho,hd⟩:=I2.cell x a z;exact absurd (lt_of_lt_of_le (Heap.lt_size ho) hCz) (by rw[q];exact Nat.lt_irrefl _)
 refine⟨m,hns.sameBut sb hCa,λh' sb'=>?_⟩;refine⟨σ.set i (some (.ref D)),upd H3 D (.lst ys),?_,fin D hD⟩;exact I4.turned (t':=s4.toks) (it:=C) (λb o hb e=>sb'.extBut b o hb e) hC hCL (.inr (Nat.le_trans I2.sz hCz)) (λx c e z=>by
   obtain⟨v,o,ho,hd⟩:=I2.cell x c e;exact absurd (lt_of_lt_of_le (Heap.lt_size ho) hCz) (by rw[z];exact Nat.lt_irrefl _)) λp hp z=>absurd (lt_of_lt_of_le (Heap.lt_size (I2.pin p hp).1) hCz) (by rw[z];exact Nat.lt_irrefl _)
end
section
variable {κ:Type} [DecidableEq κ]
def gR (kvs:List (κ×V)) (k:κ):Option V:=(kvs.find? λkv=>decide (kv.1=k)).map (·.2)
noncomputable def eT (kvs:List (κ×V)) (k:κ) (v:V):List (κ×V):=
 if(kvs.any λkv=>decide (kv.1=k))=true then kvs.map (λkv=>if kv.1=k then(kv.1,v)else kv)else kvs++[(k,v)]
theorem gS {k:κ} (e:p.1=k):gR (p::r) k=some p.2:=by simp[gR,List.find?_cons,e]
theorem gT {k:κ} (e:¬p.1=k):gR (p::r) k=gR r k:=by simp[gR,List.find?_cons,e]
theorem pE (k:κ):∀kvs:List (κ×V),(kvs.any λkv=>decide (kv.1=k))=(gR kvs k).isSome
 |[]=>rfl
 |p::r=>by
  rw[List.any_cons];by_cases e:p.1=k
  ·simp only[gS e,decide_eq_true e,Bool.true_or,Option.isSome_some]
  ·rw[gT e,decide_eq_false e,Bool.false_or];exact pE k r
theorem jr (kvs:List (κ×V)) (k:κ) (v:V):(eT kvs k v).length<=kvs.length+1:=by
 unfold eT;split
 ·rw[length_map];omega
 ·rw[length_append,length_cons,List.length_nil];omega
theorem RelO.isSome_eq (r:RelO o u):o.isSome=u.isSome:=by
 cases o with
 |none=>cases u with
  |none=>rfl
  |some _=>exact(show False from r).elim
 |some _=>cases u with
  |none=>exact(show False from r).elim
  |some _=>rfl
theorem KV.val (r:KV kvs vs) (k:κ):RelO (gR kvs k) (valueAt vs k):=by
 unfold KV at r;induction r with
 |nil=>exact True.intro
 |@cons p q ps qs h t ih=>
  obtain⟨h1,h2⟩:=h;by_cases e:p.1=k
  ·have e':q.1=k:=h1.symm.trans e;have b:valueAt (q::qs) k=some q.2:=by simp[valueAt,List.find?_cons,e']
   rw[gS e,b];exact h2
  ·have e':¬q.1=k:=λz=>e (h1.trans z);have b:valueAt (q::qs) k=valueAt qs k:=by simp[valueAt,List.find?_cons,e']
   rw[gT e,b];exact ih
theorem KV.any (r:KV kvs vs) (k:κ):(kvs.any λkv=>decide (kv.1=k))=vs.any λkv=>decide (kv.1=k):=by
 unfold KV at r;induction r with
 |nil=>rfl
 |cons h t ih=>rw[List.any_cons,List.any_cons,ih,h.1]
theorem KV.repl (r:KV kvs vs) (k:κ) (ry:RelV y u):
  KV (kvs.map λkv=>if kv.1=k then(kv.1,y)else kv) (vs.map λkv=>if kv.1=k then(kv.1,u)else kv):=by
 unfold KV at r⊢
 induction r with
 |nil=>exact .nil
 |@cons p q ps qs h t ih=>
  rw[List.map_cons,List.map_cons];refine .cons ?_ ih;obtain⟨h1,h2⟩:=h;by_cases e:p.1=k
  ·rw[if_pos e,if_pos (h1.symm.trans e)];exact⟨h1,ry⟩
  ·rw[if_neg e,if_neg (λz=>e (h1.trans z))];exact⟨h1,h2⟩
theorem KV.put (r:KV kvs vs) (k:κ) (ry:RelV y u):KV (eT kvs k y) (stored vs k u):=by
 unfold eT stored;rw[r.any k];by_cases e:(vs.any λkv=>decide (kv.1=k))=true
 ·rw[if_pos e,if_pos e];exact r.repl k ry
 ·rw[if_neg e,if_neg e];exact Paired.snoc r ⟨rfl,ry⟩
theorem KV.length {vs:List (κ×Value)} (r:KV kvs vs):kvs.length=vs.length:=Paired.length r
end
theorem pF (r:RelV (kV k) u):(aS P w).is k u=true:=by
 cases k with
 |inl i=>obtain⟨t,e⟩:=(show∃t,u=Value.int i t from r);subst e;exact oW P w i t
 |inr x=>obtain⟨t,e⟩:=(show∃t,u=Value.str x t from r);subst e;exact oX P w x t
theorem mZ:∀ {ks:List Key} {us:List Value},Vals (ks.map kV) us->ItemsAre (aS P w) ks us
 |[],_,r=>by rw[List.map_nil]at r;cases r;exact .nil
 |k::ks,_,r=>by
  rw[List.map_cons]at r;cases r with
  |cons h t=>exact .cons (pF h) (mZ t)
noncomputable abbrev KT (H:Hp):List (List Key×V)->List (List Key×Addr×Value)->Prop:=Paired λp q=>p.1=q.1/\H q.2.1=some (.tup (p.1.map kV))/\RelV p.2 q.2.2
theorem KT.val (r:KT H kvs xs) (k:List Key):RelO (gR kvs k) ((atKey xs k).map (·.2)):=by
 induction r with
 |nil=>exact True.intro
 |@cons p q ps qs h t ih=>
  obtain⟨h1,_,h2⟩:=h;by_cases e:p.1=k
  ·have e':q.1=k:=h1.symm.trans e;have b:atKey (q::qs) k=some q.2:=by simp[atKey,List.find?_cons,e']
   rw[gS e,b];exact h2
  ·have e':¬q.1=k:=λz=>e (h1.trans z);have b:atKey (q::qs) k=atKey qs k:=by simp[atKey,List.find?_cons,e']
   rw[gT e,b];exact ih
section
variable {P:Program} {w:World} {H:Hp} {h:Heap} {a:Addr}
theorem B0 (ok:HOk P w H h) (e:Rd H a u):ObjOk P w H h a u:=e.ok ok
theorem tf (ok:HOk P w H h) (e:Rd H a (.dK kvs)):kvs.length<=sizeLine/\(a==sysModules)=false/\∃vs,KV kvs vs/\h.DictOf (aS P w) a vs:=
 show ObjOk P w H h a (.dK kvs)from B0 ok e
theorem B3 (ok:HOk P w H h) (e:H a=some (.dK kvs)):kvs.length<=sizeLine/\(a==sysModules)=false/\∃vs,KV kvs vs/\h.DictOf (aS P w) a vs:=tf ok (.inl e)
theorem wr (ok:HOk P w H h) (e:H a=some (.tup (ks.map kV))):(tupleKind (aS P w)).is h ks a:=by
 obtain⟨_,its,r,o,h1,h2,n,h3⟩:=(show ObjOk P w H h a (.tup (ks.map kV))from ok a _ e);exact⟨o,its.toArray,n,h1,h2,h3,by simpa using mZ r⟩
theorem FQ (ok:HOk P w H h) (e:Rd H a (.dT kvs)):kvs.length<=sizeLine/\(a==sysModules)=false/\
  ∃xs,KT H kvs xs/\h.DictOfH (tupleKind (aS P w)) a xs:=by
 obtain⟨z,y,xs,r,o,es,ep,h1,h2,h3,h4,h5⟩:=(show ObjOk P w H h a (.dT kvs)from B0 ok e)
 refine⟨z,y,xs,r,o,es,ep,h1,h2,h3,h4,λx hx=>?_,h5⟩
 have all:∀ {l:List (List Key×V)} {m:List (List Key×Addr×Value)},KT H l m->∀x∈m,(tupleKind (aS P w)).is h x.1 x.2.1:=by
  intro l m q;induction q with
  |nil=>intro x hx;exact nomatch hx
  |@cons p q ps qs hq t ih=>
   intro x hx;rcases mem_cons.mp hx with e|hx
   ·subst e;exact wr ok (by rw[<-hq.1];exact hq.2.1)
   ·exact ih x hx
 exact all r x hx
end
noncomputable def I0 (H:Hp) (a:Addr) (y:V) (r:Option V):Prop:=
 (∃kvs k,Rd H a (.dK kvs)/\y=kV k/\r=gR kvs k)\/∃kvs k b,Rd H a (.dT kvs)/\y=.ref b/\H b=some (.tup (k.map kV))/\r=gR kvs k
section
variable {X:Cx} {pins:List (Addr×Obj)} {σ:St} {H:Hp} {s:Shared} {a:Addr} {y v:V} {u r:Value} {o:Option V} {A:Around} {E:Value->Shared->Prop}
theorem Inv.big (I:Inv X pins σ H s):sysModules<s.heap.objs.size:=by
 have h:mainGlobals<s.heap.objs.size:=(I.mod.glob.keeps I.bk).lt;exact Nat.lt_trans (by decide) h
theorem Ja (hu:A.units+1<cLine) (I:Inv X pins σ H s) (g:I0 H a y o) (ry:RelV y u) (h:∀s',Inv X pins σ H s'->Q (.bool o.isSome) s'):
  wpAny (model X.prog X.w) A (compareOp .In u (.ref a)) Q E s:=by
 rcases g with⟨kvs,k,e,ey,l⟩|⟨kvs,k,b,e,ey,eb,l⟩
 ·subst ey;obtain⟨z,hd,vs,rel,dd⟩:=tf I.hok e;refine wpAny_in_of (pF ry) hd dd.mapOf ?_;rw[<- (rel.val k).isSome_eq,<-l];exact h _ (I.tok _)
 ·subst ey;cases(show u=Value.ref b from ry);obtain⟨z,hd,xs,rel,dd⟩:=FQ I.hok e;refine wpAny_in_heap (tupleKind_room_in1 hu) (wr I.hok eb) hd dd ?_;have q:=(rel.val k).isSome_eq;rw[Option.isSome_map]at q;rw[<-q,<-l];exact h _ (I.tok _)
theorem tj (I:Inv X pins σ H s) (mu:Mut (H a)) (hs:Heap.SameBut a s.heap h') (he:∃q,h'.get? a=some q) (new:ObjOk X.prog X.w (upd H a ob) h' a ob):
  Inv X pins σ (upd H a ob) {s with heap:=h',toks:=t'}:=
 I.write (x:=a) (e:=a) mu (.inl rfl) (λb q hb z=>(hs.2 b hb).trans z) he new
theorem wt (z:kvs.length<=sizeLine) (hd:(a==sysModules)=false) (rel:KV kvs vs) (dd:h'.DictOf (aS P w) a vs):
 ObjOk P w H' h' a (.dK kvs):=⟨z,hd,vs,rel,dd⟩
end
section
variable {X:Cx} {pins:List (Addr×Obj)} {σ:St} {H:Hp} {s:Shared} {a:Addr} {kvs:List (Key×V)} {k:Key} {u:Value} {A:Around} {E:Value->Shared->Prop}
end
section
variable {X:Cx} {o i e value:Expr} {pos pos' tpos:Pos} {td ty tv:TE}
end
theorem pG (h:Heap) (hb:sysModules<h.objs.size):ObjOk P w H (h.push {cls:=.type "dict",data:=.dict #[]}) h.objs.size (.dK []):=
 ⟨Nat.zero_le _,beq_eq_false_iff_ne.mpr (Ne.symm (Nat.ne_of_lt hb)),[],.nil,Heap.DictOf.new h⟩
def C6:TE:=λ_ H Q=>∀p,H p=none->Q (.ref p) (upd H p (.dK []))
section
variable {X:Cx} {pos:Pos}
theorem pe_dnewK:PE X (.Dict [] [] pos) C6:=λpins s σ H Q I h=>
 wpAny_Dict_empty ⟨.ref s.heap.objs.size,_,I.laid (a:=s.heap.objs.size) (o:=.dK []) (t':=s.toks) (λ_ _ q=>Heap.get?_push_of_some _ q) (le_refl _) (pG s.heap I.big),rfl,h _ (I.hok.fresh (le_refl _))⟩
end
section
variable {X:Cx}
end
noncomputable def qY:List (TE×TE)->St->Hp->(List (V×V)->Hp->Prop)->Prop
 |[],_,H,Q=>Q [] H
 |(tk,tv)::r,σ,H,Q=>tk σ H λx H1=>tv σ H1 λy H2=>qY r σ H2 λps H3=>Q ((x,y)::ps) H3
abbrev VV:List (V×V)->List (Value×Value)->Prop:=Paired λp q=>RelV p.1 q.1/\RelV p.2 q.2
noncomputable def PPs (X:Cx) (pos:Pos) (keys:List (Option Expr)) (values:List Expr) (trs:List (TE×TE)):Prop:=
 ∀ (pins:List (Addr×Obj)) (s:Shared) (σ:St) (H:Hp) (Q:List (V×V)->Hp->Prop),Inv X pins σ H s->qY trs σ H Q->
  wpAny (model X.prog X.w) X.A (evalPairs (pairTrees keys values X.env pos)) (λvs s'=>∃ps H',Inv X pins σ H' s'/\VV ps vs/\Q ps H') X.xe s
theorem Ad:PPs X pos [] [] []:=λpins s σ H Q I h=>pairTrees_nil_walk ⟨[],H,I,.nil,h⟩
theorem wu (hk:PE X k tk) (hv:PE X v tv) (hr:PPs X pos ks vs trs):
  PPs X pos (some k::ks) (v::vs) ((tk,tv)::trs):=λpins s σ H Q I h=>
 pairTrees_cons_walk (thn (hk pins s σ H _ I h) λu s1 ⟨x,H1,I1,rx,q1⟩=>thn (hv pins s1 σ H1 _ I1 q1) λw2 s2 ⟨y,H2,I2,ry,q2⟩=>
  thn (hr pins s2 σ H2 _ I2 q2) λws s3 ⟨ps,H3,I3,rel,q3⟩=>⟨(x,y)::ps,H3,I3,.cons ⟨rx,ry⟩ rel,q3⟩)
def kI (kvs more:List (Key×V)):List (Key×V):=more.foldl (λacc kv=>eT acc kv.1 kv.2) kvs
theorem KV.merge:∀ {more:List (Key×V)} {rs:List (Key×Value)} {kvs:List (Key×V)} {vs:List (Key×Value)},KV more rs->KV kvs vs->KV (kI kvs more) (merged vs rs):=by
 intro more rs kvs vs r;unfold KV at r;induction r generalizing kvs vs with
 |nil=>intro q;exact q
 |@cons p q ps qs h t ih=>
  intro r0;have e:KV (eT kvs p.1 p.2) (stored vs q.1 q.2):=by
   have:=r0.put p.1 h.2;rw[<-h.1];exact this
  exact ih e
theorem f7:∀ (more kvs:List (Key×V)),(kI kvs more).length<=kvs.length+more.length
 |[],kvs=>by show kvs.length<=kvs.length+0;omega
 |p::r,kvs=>by
  have h1:=f7 r (eT kvs p.1 p.2);have h2:=jr kvs p.1 p.2;show(kI (eT kvs p.1 p.2) r).length<=_;rw[length_cons];omega
theorem kJ:∀ {kvs:List (Key×V)} {ws:List (Value×Value)},VV (kvs.map λkv=>(kV kv.1,kv.2)) ws->∃rs,Carries (aS P w) ws rs/\KV kvs rs
 |[],_,r=>by rw[List.map_nil]at r;cases r;exact⟨[],True.intro,.nil⟩
 |p::kvs,_,r=>by
  rw[List.map_cons]at r;cases r with
  |@cons a b as bs h t=>
   obtain⟨rs,c,q⟩:=kJ (P:=P) (w:=w) t;obtain⟨b1,b2⟩:=b;exact⟨(p.1,b2)::rs,⟨pF h.1,rfl,c⟩,.cons ⟨rfl,h.2⟩ q⟩
noncomputable def FR (trs:List (TE×TE)):TE:=λσ H Q=>∀p,H p=none->qY trs σ (upd H p (.dK [])) λps H2=>H2 p=some (.dK [])/\∃kvs:List (Key×V),ps=kvs.map (λkv=>(kV kv.1,kv.2))/\kvs.length<=15/\Q (.ref p) (upd H2 p (.dK (kI [] kvs)))
theorem Ae (h:PPs X pos keys values trs) (hall:keys.all (·.isSome)=true) (hl:keys.length=values.length) (h0:keys≠[]) (h15:keys.length<=15):PE X (.Dict keys values pos) (FR trs):=by
 intro pins s σ H Q I q;have hn:=I.hok.fresh (le_refl s.heap.objs.size);have I1:=I.laid (a:=s.heap.objs.size) (o:=.dK []) (h':=s.heap.push {cls:=.type "dict",data:=.dict #[]}) (t':=s.toks) (λ_ _ q=>Heap.get?_push_of_some _ q) (le_refl _) (pG s.heap I.big);refine wpAny_Dict_walk (knd:=aS X.prog X.w) hall hl h0 h15 (thn (h pins _ σ _ _ I1 (q _ hn)) λws s2 ⟨ps,H2,I2,rel,e,kvs,ep,lk,q2⟩=>?_);subst ep;obtain⟨rs,c,rk⟩:=kJ (P:=X.prog) (w:=X.w) rel;obtain⟨z,hd,vs0,r0,dd⟩:=B3 I2.hok e;cases r0;refine⟨rs,c,dd,λh' dd' hs=>⟨.ref s.heap.objs.size,_,?_,rfl,q2⟩⟩;have hz:(kI [] kvs).length<=sizeLine:=by
  have h1:=f7 kvs [];rw[List.length_nil]at h1;rw[sizeLine_eq];omega
 have he:∃q,h'.get? s.heap.objs.size=some q:=let⟨q,_,_,hq,_⟩:=dd';⟨q,hq⟩;exact tj I2 (by rw[e];exact True.intro) hs he (wt hz hd (rk.merge .nil) dd')
end L2
namespace HT
open PySem PySem.Spec PyProof.Rows
section
open PySem.SeqAt
open PySem.AutoSeq1 (wpAny_loadPart')
open PySem.MeetsSeq PySem.MeetsSeq2 PySem.MeetsSeq3
end
section
variable {prog:Program} {w:World} {A:Around} {E:Value->Shared->Prop} {s:Shared}
end
end HT
namespace L2
open PySem PySem.Spec PyProof.Rows
section
variable {X:Cx}
end
end L2
namespace HT
open PySem PySem.Spec PyProof.Rows
section
open PySem.SeqAt
open PySem.AutoSeq1 (wpAny_loadPart')
open PySem.MeetsSeq PySem.MeetsSeq2 PySem.MeetsSeq3
theorem tm (h:IntsAre vs ns) (hi:i<vs.length):∃a t,vs[i]?=some (.int a t)/\ns.drop i=a::ns.drop (i+1):=by
 induction h generalizing i with
 |nil=>cases hi
 |cons n t h ih=>
  cases i with
  |zero=>exact⟨n,t,rfl,rfl⟩
  |succ i=>exact ih (Nat.lt_of_succ_lt_succ hi)
theorem Af (l b:Addr) (items items2:Array Value) (n n2:Nat) (dd dd2:Option Addr) (sl sl2:Array (Option Value)) (ns ms:List Int) (hi:IntsAre items.toList ns) (hj:IntsAre items2.toList ms) (k:Nat):
  ∀i:Nat,i<=items.size->i<=items2.size->items.size-i=k->Meets (Builtin.«list.__eq__.loop» ⟨[.ref l,.ref b,rawInt i,rawInt 0],[]⟩)
   (λA R s=>s.heap.get? l=some {cls:=.type "list",dict:=dd,data:=.seq items n,slots:=sl}/\s.heap.get? b=some {cls:=.type "list",dict:=dd2,data:=.seq items2 n2,slots:=sl2}/\
    R (.ok (.ret (.bool (lexLt (ns.drop i) (ms.drop i))))) s):=by
 have z1:items.size=ns.length:=by rw[<-hi.length];simp
 have z2:items2.size=ms.length:=by rw[<-hj.length];simp
 induction k with
 |zero=>
  intro i h1 h2 hk prog w A R s h;obtain⟨hp,g,d,tk,os⟩:=s;obtain⟨hl,hb,h⟩:=h;wp_walk using wpAny_loadPart' hl,wpAny_loadPart' hb;have hi1:items[((i:Nat):Int).toNat]?=none:=by simp;omega
  rw[hi1];wp_walk using wpAny_loadPart' hl,wpAny_loadPart' hb;show R (.ok (.ret (.bool (decide (items.size<items2.size))))) _;rw[List.drop_eq_nil_of_le (show ns.length<=i by omega)]at h;have e:lexLt [] (ms.drop i)=decide (items.size<items2.size):=by
   cases q:ms.drop i with
   |nil=>
    have:=List.drop_eq_nil_iff.mp q;rw[mh,decide_eq_false (by omega)]
   |cons y ys=>
    have:i<ms.length:=by
     rcases Nat.lt_or_ge i ms.length with z|z
     ·exact z
     ·rw[List.drop_eq_nil_of_le z]at q;cases q
    rw[ko,decide_eq_true (by omega)]
  rw[e]at h;exact h
 |succ k ih=>
  intro i h1 h2 hk prog w A R s h;obtain⟨hp,g,d,tk,os⟩:=s;obtain⟨hl,hb,h⟩:=h;wp_walk using wpAny_loadPart' hl,wpAny_loadPart' hb;obtain⟨a,t,ea,da⟩:=tm hi (i:=i) (by rw[Array.length_toList];omega);have hi1:items[((i:Nat):Int).toNat]?=some (.int a t):=by rw[Int.toNat_natCast,<-Array.getElem?_toList];exact ea
  rw[da]at h;rcases Nat.lt_or_ge i items2.size with hlt2|hge
  ·obtain⟨c,u,ec,dc⟩:=tm hj (i:=i) (by rw[Array.length_toList];omega);have hi2:items2[((i:Nat):Int).toNat]?=some (.int c u):=by rw[Int.toNat_natCast,<-Array.getElem?_toList];exact ec
   have hc:((i:Int)+1)=((i+1:Nat):Int):=by push_cast;rfl
   rw[dc,lexLt_cons]at h;rw[hi1,hi2];obtain⟨e,he,hiff⟩:=wc A.in1 ⟨hp,g,d,tk,os⟩ a t c u;refine wpAny_bind (he prog w _ _ ?_);cases e with
   |true=>
    rw[if_pos (hiff.mp rfl)]at h;wp_walk;rw[hc];exact⟨plainId_quiet plain_eq_loop _,codeAny_builtin entry_eq_loop (by
     rw[Around.under_plainId plain_eq_loop _];exact ih (i+1) (by omega) (by omega) (by omega) prog w A R _ ⟨hl,hb,h⟩)⟩
   |false=>
    rw[if_neg (λq=>absurd (hiff.mpr q) Bool.false_ne_true)]at h;have hri:=wd A.in1 ⟨hp,g,d,tk,os⟩ a t c u prog w;wp_walk using wpAny_loadPart' hl,wpAny_loadPart' hb;rw[hi1,hi2];wp_walk using hri;exact h
  ·have hi2:items2[((i:Nat):Int).toNat]?=none:=by simp;omega
   rw[List.drop_eq_nil_of_le (show ms.length<=i by omega),kq]at h;rw[hi1,hi2];wp_walk using wpAny_loadPart' hl,wpAny_loadPart' hb;show R (.ok (.ret (.bool (decide (items.size<items2.size))))) _;rw[decide_eq_false (by omega)];exact h
theorem list_lt_ints (l b:Addr) (items items2:Array Value) (n n2:Nat) (dd dd2:Option Addr) (sl sl2:Array (Option Value)) (ns ms:List Int) (hi:IntsAre items.toList ns) (hj:IntsAre items2.toList ms):
  Meets (Builtin.«list.__lt__» ⟨[.ref l,.ref b],[]⟩)
   (λA R s=>s.heap.get? l=some {cls:=.type "list",dict:=dd,data:=.seq items n,slots:=sl}/\s.heap.get? b=some {cls:=.type "list",dict:=dd2,data:=.seq items2 n2,slots:=sl2}/\
    R (.ok (.ret (.bool (lexLt ns ms)))) s):=by
 intro prog w A R s h
 obtain⟨hp,g,d,tk,os⟩:=s;obtain⟨hl,hb,h⟩:=h
 have f3:=AutoSeq1.sub_list_list
 wp_walk using wpAny_loadPart' hl,wpAny_loadPart' hb
 exact⟨plainId_quiet plain_eq_loop _,codeAny_builtin entry_eq_loop (by
  rw[Around.under_plainId plain_eq_loop _];exact Af l b items items2 n n2 dd dd2 sl sl2 ns ms hi hj _ 0 (Nat.zero_le _) (Nat.zero_le _) rfl prog w A R _ ⟨hl,hb,h⟩)⟩
end
end HT
namespace L2
open PySem PySem.Spec PyProof.Rows
section
variable {X:Cx}
noncomputable def FS (K:Frag):R2:=λx y H Q=>∃a b ns ms,x=.ref a/\y=.ref b/\SqL K H a (ns.map V.int)/\SqL K H b (ms.map V.int)/\Q (.bl (HT.lexLt ns ms)) H
theorem wv (hu:X.A.units<cLine):OpR X (compareOp .Lt) (FS X.K):=by
 intro pins s σ H x y v u Q I rx ry h;obtain⟨l,m,ns,ms,rfl,rfl,h1,h2,q⟩:=h;cases rx;cases ry;obtain⟨its,r1,⟨⟨c1,d1,t1,s1⟩,n1,e1,k1,_,w1⟩,_⟩:=I.list h1;obtain⟨jts,r2,⟨⟨c2,d2,t2,s2⟩,n2,e2,k2,_,w2⟩,_⟩:=I.list h2;simp only at k1 w1 k2 w2;subst k1 w1 k2 w2;exact richCompare_meets_room (op:=.Lt) ⟨_,e1,rfl⟩ ⟨_,e2,rfl⟩ PySem.F.slot_list_lt PySem.F.entry_list_lt (PySem.F.args_list_lt_2 _ _) (HT.list_lt_ints l m its.toArray jts.toArray n1 n2 d1 d2 s1 s2 ns ms (kt r1) (kt r2))
  ⟨e1,e2,(λx=>nomatch x),.bl (HT.lexLt ns ms),H,I,rfl,q⟩ hu
end
inductive D where
 |non
 |bl (b:Bool)
 |int (i:Int)
 |str (x:Str)
 |ty (n:String)
 |adr (a:Addr)
 |tup (ds:List D)
 |lst (ds:List D)
 |obj (C:Str) (ns:List Str) (ds:List D)
 |dct (ks:List Key) (ds:List D)
mutual
noncomputable def Is (K:Frag) (H:Hp):D->V->Prop
 |.non,v=>v=.non
 |.bl b,v=>v=.bl b
 |.int i,v=>v=.int i
 |.str x,v=>v=.str x
 |.ty n,v=>v=.ty n
 |.adr a,v=>v=.ref a
 |.tup ds,v=>∃a xs,v=.ref a/\SqT K H a xs/\IsL K H ds xs
 |.lst ds,v=>∃a xs,v=.ref a/\SqL K H a xs/\IsL K H ds xs
 |.obj C ns ds,v=>∃a Ca dx fs,v=.ref a/\nsIn K mainGlobals C=some (some (.ref Ca))/\H a=some (.ins Ca dx fs)/\fs.map (·.1)=ns/\IsL K H ds (fs.map (·.2))
 |.dct ks ds,v=>∃a kvs,v=.ref a/\Rd H a (.dK kvs)/\kvs.map (·.1)=ks/\IsL K H ds (kvs.map (·.2))
noncomputable def IsL (K:Frag) (H:Hp):List D->List V->Prop
 |[],xs=>xs=[]
 |d::ds,xs=>∃x r,xs=x::r/\Is K H d x/\IsL K H ds r
end
theorem Same.seqT {K} (e:Same H H') (h:SqT K H a xs):SqT K H' a xs:=by
 rcases h with(h|⟨o,h⟩)|h
 ·exact .inl (.inl (e _ _ h))
 ·exact .inl (.inr ⟨o,e _ _ h⟩)
 ·exact .inr h
theorem Same.rd (e:Same H H') (h:Rd H a u):Rd H' a u:=by
 rcases h with h|⟨o,h⟩
 ·exact .inl (e _ _ h)
 ·exact .inr ⟨o,e _ _ h⟩
mutual
theorem Is.mono {K:Frag} {H H':Hp} (s:Same H H'):∀ (d:D) (v:V),Is K H d v->Is K H' d v
 |.non,_,h=>h
 |.bl _,_,h=>h
 |.int _,_,h=>h
 |.str _,_,h=>h
 |.ty _,_,h=>h
 |.adr _,_,h=>h
 |.tup ds,_,⟨a,xs,e,q,l⟩=>⟨a,xs,e,s.seqT q,IsL.mono s ds xs l⟩
 |.lst ds,_,⟨a,xs,e,q,l⟩=>⟨a,xs,e,s.seq q,IsL.mono s ds xs l⟩
 |.obj _ _ ds,_,⟨a,Ca,dx,fs,e,c,q,z,l⟩=>⟨a,Ca,dx,fs,e,c,s _ _ q,z,IsL.mono s ds _ l⟩
 |.dct _ ds,_,⟨a,kvs,e,q,z,l⟩=>⟨a,kvs,e,s.rd q,z,IsL.mono s ds _ l⟩
theorem IsL.mono {K:Frag} {H H':Hp} (s:Same H H'):∀ (ds:List D) (xs:List V),IsL K H ds xs->IsL K H' ds xs
 |[],_,h=>h
 |d::ds,_,⟨x,r,e,h,l⟩=>⟨x,r,e,Is.mono s d x h,IsL.mono s ds r l⟩
end
theorem IsL.paired {K}:∀ {ds:List D} {xs:List V},IsL K H ds xs->Paired (Is K H) ds xs
 |[],_,h=>by cases(show _=[]from h);exact .nil
 |_::_,_,⟨_,_,e,h,l⟩=>by cases e;exact .cons h (IsL.paired l)
theorem IsL.of {K}:∀ {ds:List D} {xs:List V},Paired (Is K H) ds xs->IsL K H ds xs
 |_,_,.nil=>rfl
 |_,_,.cons h l=>⟨_,_,rfl,h,IsL.of l⟩
theorem IsL.len {K} (h:IsL K H ds xs):ds.length=xs.length:=Paired.length h.paired
theorem kK:∀ {a c:List α} {b d:List β},Paired F a b->Paired F c d->Paired F (a++c) (b++d)
 |_,_,_,_,.nil,h=>h
 |_,_,_,_,.cons h l,q=>.cons h (kK l q)
theorem gu:∀ {a:List α} {b:List β} {i:Nat} {x:α},Paired F a b->a[i]?=some x->∃y,b[i]?=some y/\F x y
 |_,_,_,_,.nil,e=>by simp at e
 |_,_,0,_,.cons h _,e=>by simp at e;subst e;exact⟨_,rfl,h⟩
 |_,_,i+1,_,.cons _ l,e=>by
  obtain⟨y,h1,h2⟩:=gu (i:=i) l (by simpa using e);exact⟨y,by simpa using h1,h2⟩
theorem paired_get':∀ {a:List α} {b:List β} {i:Nat} {y:β},Paired F a b->b[i]?=some y->∃x,a[i]?=some x/\F x y
 |_,_,_,_,.nil,e=>by simp at e
 |_,_,0,_,.cons h _,e=>by simp at e;subst e;exact⟨_,rfl,h⟩
 |_,_,i+1,_,.cons _ l,e=>by
  obtain⟨y,h1,h2⟩:=paired_get' (i:=i) l (by simpa using e);exact⟨y,by simpa using h1,h2⟩
theorem js:∀ {a:List α} {b:List β} (n:Nat),Paired F a b->Paired F (a.take n) (b.take n)
 |_,_,0,_=>.nil
 |_,_,_+1,.nil=>.nil
 |_,_,n+1,.cons h l=>.cons h (js n l)
theorem jt:∀ {a:List α} {b:List β} (n:Nat),Paired F a b->Paired F (a.drop n) (b.drop n)
 |_,_,0,h=>h
 |_,_,_+1,.nil=>.nil
 |_,_,n+1,.cons _ l=>jt n l
theorem IsL.app {K} (h:IsL K H ds xs) (q:IsL K H es ys):IsL K H (ds++es) (xs++ys):=.of (kK h.paired q.paired)
theorem IsL.get {K} {i:Nat} (h:IsL K H ds xs) (e:ds[i]?=some d):∃x,xs[i]?=some x/\Is K H d x:=gu h.paired e
theorem IsL.get' {K} {i:Nat} (h:IsL K H ds xs) (e:xs[i]?=some x):∃d,ds[i]?=some d/\Is K H d x:=paired_get' h.paired e
def msk (O:Addr->Bool) (H:Hp):Hp:=λb=>if O b=true then none else H b
theorem aF (h:msk O H b=some o):O b=false/\H b=some o:=by
 unfold msk at h;split at h
 ·cases h
 ·rename_i q;exact⟨by simpa using q,h⟩
theorem aG (h:O b=false):msk O H b=H b:=by unfold msk;rw[if_neg (by simp[h])]
theorem msk_le:Same (msk O H) H:=λ_ _ h=>(aF h).2
theorem Same.msk (s:Same H H'):Same (msk O H) (msk O H'):=λb o h=>by
 obtain⟨h1,h2⟩:=aF h;rw[aG h1];exact s b o h2
theorem gU (h:O a=true):msk O (upd H a o)=msk O H:=by
 funext b;unfold L2.msk;by_cases hb:b=a
 ·subst hb;rw[if_pos h,if_pos h]
 ·rw[ag hb]
theorem tq (h:O a=false):msk O (upd H a o)=upd (msk O H) a o:=by
 funext b;by_cases hb:b=a
 ·subst hb;rw[aG h,ah,ah]
 ·rw[ag hb];unfold L2.msk;rw[ag hb]
theorem Same.new (h:H a=none):Same H (upd H a o):=λb u q=>by rw[ag (ak q h)];exact q
theorem Is.full {K} (h:Is K (msk O H) d v):Is K H d v:=Is.mono msk_le d v h
theorem IsL.full {K} (h:IsL K (msk O H) d v):IsL K H d v:=IsL.mono msk_le d v h
abbrev Vv:=List (Option D)
noncomputable def Hid (o:Option HO):Prop:=(∃xs,o=some (.lst xs))\/(∃C dx fs,o=some (.ins C dx fs))\/∃kvs,o=some (.dK kvs)
theorem Hid.ne (h:Hid o):o≠none:=by
 rcases h with⟨xs,e⟩|⟨C,dx,fs,e⟩|⟨kvs,e⟩<;>rw[e]<;>simp
theorem Hid.same (s:Same H H') (h:Hid (H b)):Hid (H' b):=by
 rcases h with⟨xs,e⟩|⟨C,dx,fs,e⟩|⟨kvs,e⟩
 ·exact .inl ⟨xs,s _ _ e⟩
 ·exact .inr (.inl ⟨C,dx,fs,s _ _ e⟩)
 ·exact .inr (.inr ⟨kvs,s _ _ e⟩)
structure VE (K:Frag) (O:Addr->Bool) (σ:St) (H:Hp) (Y:Vv):Prop where
 lis:∀b,O b=true->Hid (H b)
 len:σ.length=Y.length
 sh:∀ (i:Nat) (d:D),Y[i]?=some (some d)->∃v,σ[i]?=some (some v)/\Is K (msk O H) d v
section
variable {K:Frag} {O:Addr->Bool} {σ:St} {H H':Hp} {Y:Vv}
theorem VE.dom (E:VE K O σ H Y):∀b,O b=true->H b≠none:=λb h=>(E.lis b h).ne
theorem VE.grow (E:VE K O σ H Y) (s:Same H H'):VE K O σ H' Y where
 lis:=λb h=>(E.lis b h).same s
 len:=E.len
 sh:=λi d h=>let⟨v,e,q⟩:=E.sh i d h;⟨v,e,Is.mono s.msk d v q⟩
theorem gW (hd:∀b,O b=true->H b≠none) (h:H p=none):O p=false:=by
 cases e:O p with
 |false=>rfl
 |true=>exact absurd h (hd p e)
theorem VE.fresh (E:VE K O σ H Y) (h:H p=none):O p=false:=gW E.dom h
theorem get_set_some {α:Type} {l:List (Option α)} {x} {y} (h:(l.set i x)[j]?=some (some y)):(j=i/\x=some y)\/(j≠i/\l[j]?=some (some y)):=by
 by_cases hj:i=j
 ·subst hj;rw[List.getElem?_set]at h;simp only[if_true]at h;split at h
  ·exact .inl ⟨rfl,Option.some.inj h⟩
  ·cases h
 ·rw[List.getElem?_set_ne hj]at h;exact .inr ⟨Ne.symm hj,h⟩
theorem m3 {α:Type} {l:List (Option α)} {x} {y} (h:(l.set i x)[i]?=some y):i<l.length:=by
 have:=(List.getElem?_eq_some_iff.mp h).1;simpa using this
theorem VE.set (E:VE K O σ H Y) {i:Nat} {d:D} {v:V} (h:Is K (msk O H) d v):VE K O (σ.set i (some v)) H (Y.set i (some d)) where
 lis:=E.lis
 len:=by simpa using E.len
 sh:=λj d' q=>by
  rcases get_set_some q with⟨e,q'⟩|⟨e,q'⟩
  ·cases q';subst e;have hi:j<σ.length:=by rw[E.len];exact m3 q
   exact⟨v,by simp[hi],h⟩
  ·obtain⟨v',e',q2⟩:=E.sh j d' q';exact⟨v',by rw[List.getElem?_set_ne (Ne.symm e)];exact e',q2⟩
theorem wipe_iff {σ} {v:α}:(c8 ks σ)[i]?=some (some v)↔σ[i]?=some (some v)/\i ∉ ks:=⟨kA ks σ i v,λh=>pC ks σ i v h.1 h.2⟩
theorem VE.wiped (E:VE K O σ H Y) (ks:List Nat):VE K O (c8 ks σ) H (c8 ks Y) where
 lis:=E.lis
 len:=by rw[gQ,gQ];exact E.len
 sh:=λi d q=>by
  obtain⟨q1,q2⟩:=wipe_iff.mp q;obtain⟨v,e,r⟩:=E.sh i d q1;exact⟨v,wipe_iff.mpr ⟨e,q2⟩,r⟩
end
noncomputable def tP (K:Frag) (O:Addr->Bool) (Y:Vv) (o:Option D):TE:=λσ H Q=>VE K O σ H Y/\∃d,o=some d/\∀v H',Same H H'->Is K (msk O H') d v->Q v H'
noncomputable def tPF (K:Frag) (O:Addr->Bool) (Y:Vv) (o:Option (List D)):TE:=λσ H Q=>VE K O σ H Y/\∃ds,o=some ds/\∀p xs H',Same H H'->H' p=none->IsL K (msk O H') ds xs->Q (.ref p) (upd H' p (.lst xs))
noncomputable def tPT (K:Frag) (O:Addr->Bool) (Y:Vv) (o:Option Bool):TT:=λσ H Q=>VE K O σ H Y/\∃b,o=some b/\∀H',Same H H'->Q b H'
noncomputable def tPA (K:Frag) (O:Addr->Bool) (Y:Vv) (o:Option (List D)):TA:=λσ H Q=>VE K O σ H Y/\∃ds,o=some ds/\∀vs H',Same H H'->IsL K (msk O H') ds vs->Q vs H'
def PP (X:Cx) (e:Expr) (f:Vv->Option D):Prop:=∀O Y,PE X e (tP X.K O Y (f Y))
def PF (X:Cx) (e:Expr) (f:Vv->Option (List D)):Prop:=∀O Y,PE X e (tPF X.K O Y (f Y))
def PQ (X:Cx) (e:Expr) (f:Vv->Option Bool):Prop:=∀O Y,PT X e (tPT X.K O Y (f Y))
def PX (X:Cx) (es:List Expr) (f:Vv->Option (List D)):Prop:=∀O Y,PA X es (tPA X.K O Y (f Y))
def fY (Y:Vv) (i:Nat):Option D:=match Y[i]? with
 |some (some d)=>some d
 |_=>none
theorem uO (h:fY Y i=some d):Y[i]?=some (some d):=by
 unfold fY at h;split at h
 ·cases h;assumption
 ·cases h
section
variable {X:Cx} {pos:Pos}
theorem C7 (i:Nat) (hN:X.N[i]?=some x:=by rfl) (hv:Vis X.env.scope x:=by first|exact Or.inl rfl|exact Or.inr (Or.inl rfl)|exact Or.inr (Or.inr rfl)) (hd:(x==("__debug__":Str))=false:=by decide) (hcd:(x==("__classdict__":Str))=false:=by decide):PP X (.Name x pos) (λY=>fY Y i):=λO Y=>(bO hN hv hd hcd).imp λσ H Q ⟨E,d,e,k⟩=>by
 obtain⟨v,e1,e2⟩:=E.sh i d (uO e);exact⟨v,e1,k v H (Same.refl _) e2⟩
theorem pp_int:PP X (.Constant (.int i) j pos) (λ_=>some (.int i)):=λO Y=>pe_int.imp λσ H Q ⟨E,d,e,k⟩=>by
 cases e;exact k _ H (Same.refl _) rfl
theorem pp_bl:PP X (.Constant (.bool b) j pos) (λ_=>some (.bl b)):=λO Y=>pe_bl.imp λσ H Q ⟨E,d,e,k⟩=>by
 cases e;exact k _ H (Same.refl _) rfl
theorem pp_non:PP X (.Constant .none j pos) (λ_=>some .non):=λO Y=>pe_non.imp λσ H Q ⟨E,d,e,k⟩=>by
 cases e;exact k _ H (Same.refl _) rfl
theorem pp_str:PP X (.Constant (.str x) j pos) (λ_=>some (.str x)):=λO Y=>pe_str.imp λσ H Q ⟨E,d,e,k⟩=>by
 cases e;exact k _ H (Same.refl _) rfl
theorem FT (hg:Gl X x) (hm:X.mg x=none) (hv:bootBuiltins x=some (.type n)) (hn:x≠"__name__":=by decide) (hd:(x==("__debug__":Str))=false:=by decide):PP X (.Name x pos) (λ_=>some (.ty n)):=
 λO Y=>(zR (v:=.ty n) hg hm hv rfl hn hd).imp λσ H Q ⟨E,d,e,k⟩=>by
 cases e;exact k _ H (Same.refl _) rfl
theorem Ag (hg:Gl X x) (hm:X.mg x=some u) (r:RelV v u) (h:∀H,Is X.K H d v) (hd:(x==("__debug__":Str))=false:=by decide):PP X (.Name x pos) (λ_=>some d):=
 λO Y=>(zQ hg hm r hd).imp λσ H Q ⟨E,d',e,k⟩=>by
 cases e;exact k _ H (Same.refl _) (h _)
noncomputable def R2D (K:Frag) (r:R2) (g:D->D->Option D):Prop:=∀ (O:Addr->Bool) (H:Hp) (x y:V) (dx dy d:D) (Q:VK),(∀b,O b=true->H b≠none)->Is K (msk O H) dx x->Is K (msk O H) dy y->g dx dy=some d->
 (∀v H',Same H H'->Is K (msk O H') d v->Q v H')->r x y H Q
noncomputable def aa (g:D->D->Option D) (fa fb:Vv->Option D):Vv->Option D:=λY=>(fa Y).bind λx=>(fb Y).bind λy=>g x y
theorem bind_some {α β:Type} {o} {f:α->Option β} {b} (h:o.bind f=some b):∃a,o=some a/\f a=some b:=by
 cases o with
 |none=>cases h
 |some a=>exact⟨a,rfl,h⟩
theorem jZ (hr:R2D X.K r g) (h:tP X.K O Y (aa g fa fb Y) σ H Q):
  tOp r (tP X.K O Y (fa Y)) (tP X.K O Y (fb Y)) σ H Q:=by
 obtain⟨E,d,e,k⟩:=h
 obtain⟨dx,e1,e⟩:=bind_some e
 obtain⟨dy,e2,e3⟩:=bind_some e
 refine⟨E,dx,e1,λx H1 s1 i1=>⟨E.grow s1,dy,e2,λy H2 s2 i2=>?_⟩⟩
 exact hr O H2 x y dx dy d Q (E.grow (s1.trans s2)).dom (Is.mono s2.msk dx x i1) i2 e3 λv H' s3 i3=>k v H' (s1.trans (s2.trans s3)) i3
theorem pH (ho:OpR X (binaryOp op) r) (hr:R2D X.K r g) (ha:PP X a fa) (hb:PP X b fb):PP X (.BinOp a op b pos) (aa g fa fb):=
 λO Y=>(BU ho (ha O Y) (hb O Y)).imp λσ H Q h=>jZ hr h
theorem pp_cmp (ho:OpR X (compareOp op) r) (hr:R2D X.K r g) (ha:PP X a fa) (hb:PP X b fb) (hm:behindInMarks op b=false):PP X (.Compare a [op] [b] pos) (aa g fa fb):=
 λO Y=>(zT ho (ha O Y) (hb O Y) hm).imp λσ H Q h=>jZ hr h
def D.asB:D->Option Bool
 |.bl b=>some b
 |_=>none
theorem asB_some {d:D} (h:d.asB=some b):d=.bl b:=by
 cases d<;>first|(cases h;rfl)|cases h
def au (f:Vv->Option D):Vv->Option Bool:=λY=>(f Y).bind D.asB
theorem pq_cmp (ho:OpR X (compareOp op) r) (hr:R2D X.K r g) (ha:PP X a fa) (hb:PP X b fb) (hm:behindInMarks op b=false):PQ X (.Compare a [op] [b] pos) (au (aa g fa fb)):=
 λO Y=>(zU ho (ha O Y) (hb O Y) hm).imp λσ H Q h=>by
 obtain⟨E,b,e,k⟩:=h
 obtain⟨d,e1,e2⟩:=bind_some e
 cases asB_some e2
 refine jZ hr ⟨E,.bl b,e1,λv H' s i=>?_⟩
 cases(show v=.bl b from i)
 exact⟨b,rfl,k H' s⟩
noncomputable def bI (g g':D->D->Option D) (fa fb fc:Vv->Option D):Vv->Option D:=λY=>(fa Y).bind λx=>(fb Y).bind λy=>(g x y).bind λz=>z.asB.bind λk=>if k=true then(fc Y).bind λw=>g' y w else some (.bl false)
theorem m5 (hr:R2D X.K r g) (hr':R2D X.K r' g') (h:tP X.K O Y (bI g g' fa fb fc Y) σ H Q):
  qM r r' (tP X.K O Y (fa Y)) (tP X.K O Y (fb Y)) (tP X.K O Y (fc Y)) σ H Q:=by
 obtain⟨E,d,ea,k⟩:=h
 obtain⟨dx,e1,eb⟩:=bind_some ea
 obtain⟨dy,e2,ec⟩:=bind_some eb
 obtain⟨dz,e3,ed⟩:=bind_some ec
 obtain⟨b,e4,e⟩:=bind_some ed
 clear ea eb ec ed
 cases asB_some e4
 refine⟨E,dx,e1,λx H1 s1 i1=>⟨E.grow s1,dy,e2,λy H2 s2 i2=>?_⟩⟩
 refine hr O H2 x y dx dy _ _ (E.grow (s1.trans s2)).dom (Is.mono s2.msk dx x i1) i2 e3 λv H3 s3 i3=>⟨b,i3,?_⟩
 cases b with
 |true=>
  rw[if_pos rfl]at e⊢;obtain⟨dw,e5,e6⟩:=bind_some e;refine⟨E.grow (s1.trans (s2.trans s3)),dw,e5,λw' H4 s4 i4=>?_⟩;exact hr' O H4 y w' dy dw d Q (E.grow (s1.trans (s2.trans (s3.trans s4)))).dom (Is.mono (s3.trans s4).msk dy y i2) i4 e6 λv' H5 s5 i5=>k v' H5 (s1.trans (s2.trans (s3.trans (s4.trans s5)))) i5
 |false=>
  rw[if_neg Bool.false_ne_true]at e⊢;cases e;exact k _ H3 (s1.trans (s2.trans s3)) rfl
theorem pI (ho:OpR X (compareOp op) r) (ho':OpR X (compareOp op') r') (hr:R2D X.K r g) (hr':R2D X.K r' g') (ha:PP X a fa) (hb:PP X b fb) (hc:PP X c fc) (hm:lastMarks [op,op'] [b,c]=false:=by with_unfolding_all rfl):PP X (.Compare a [op,op'] [b,c] pos) (bI g g' fa fb fc):=λO Y=>(vU ho ho' (ha O Y) (hb O Y) (hc O Y) hm).imp λσ H Q h=>m5 hr hr' h
theorem wx (ho:OpR X (compareOp op) r) (ho':OpR X (compareOp op') r') (hr:R2D X.K r g) (hr':R2D X.K r' g') (ha:PP X a fa) (hb:PP X b fb) (hc:PP X c fc) (hm:lastMarks [op,op'] [b,c]=false:=by with_unfolding_all rfl):PQ X (.Compare a [op,op'] [b,c] pos) (au (bI g g' fa fb fc)):=λO Y=>(vV ho ho' (ha O Y) (hb O Y) (hc O Y) hm).imp λσ H Q h=>by
 obtain⟨E,b,e,k⟩:=h;obtain⟨d,e1,e2⟩:=bind_some e;cases asB_some e2;refine m5 hr hr' ⟨E,.bl b,e1,λv H' s i=>?_⟩;cases(show v=.bl b from i);exact⟨b,rfl,k H' s⟩
def C8:D->D->Option D
 |.int i,.int j=>some (.int (i+j))
 |_,_=>none
def cQ:D->D->Option D
 |.int i,.int j=>some (.int (i-j))
 |_,_=>none
instance (i j:Int):Decidable (CMul i j):=Classical.propDecidable _
def wy (_ j:Int):Prop:=0<j/\j.natAbs.log2<9000
instance (i j:Int):Decidable (wy i j):=Classical.propDecidable _
theorem Ah:OpR X (binaryOp .FloorDiv) (rI wy λi j=>.int (i/j)):=opI λi j _ _ _ _ _ hc q=>by
 have h1:(0:Int)<j:=hc.1;exact floordiv_int (by omega) (by rw[Int.fdiv_eq_ediv_of_nonneg i (by omega)];exact q) (.inl (PyProof.noPylong_of_log2 hc.2))
instance (i j:Int):Decidable (IP i j):=Classical.propDecidable _
def aL:D->D->Option D
 |.int i,.int j=>if CMul i j then some (.int (i*j))else none
 |_,_=>none
def jL:D->D->Option D
 |.int i,.int j=>if wy i j then some (.int (i/j))else none
 |_,_=>none
def bj:D->D->Option D
 |.int i,.int j=>if 0<j then some (.int (i%j))else none
 |_,_=>none
noncomputable def bU:List D->Option (List Int)
 |[]=>some []
 |.int i::ds=>(bU ds).bind λxs=>some (i::xs)
 |_::_=>none
def ltI:D->D->Option D
 |.int i,.int j=>some (.bl (decide (i<j)))
 |_,_=>none
noncomputable def ltL:D->D->Option D
 |.lst ds,.lst es=>(bU ds).bind λxs=>(bU es).bind λys=>some (.bl (HT.lexLt xs ys))
 |_,_=>none
def ltD (x y:D):Option D:=match ltI x y with
 |some d=>some d
 |none=>ltL x y
def leD:D->D->Option D
 |.int i,.int j=>some (.bl (decide (i<=j)))
 |_,_=>none
def gtI:D->D->Option D
 |.int i,.int j=>some (.bl (decide (j<i)))
 |_,_=>none
def gtD (x y:D):Option D:=gtI x y
def geD:D->D->Option D
 |.int i,.int j=>some (.bl (decide (j<=i)))
 |_,_=>none
theorem tu {K} {g:Int->Int->Int} (hf:∀x y d,f x y=some d->∃i j,x=.int i/\y=.int j/\d=.int (g i j)):R2D K (rI0 λi j=>.int (g i j)) f:=λO H x y dx dy d Q _ ix iy e k=>by
 obtain⟨i,j,rfl,rfl,rfl⟩:=hf dx dy d e;exact⟨i,j,ix,iy,k _ H (Same.refl _) rfl⟩
theorem gX {K} {g:Int->Int->Bool} (hf:∀x y d,f x y=some d->∃i j,x=.int i/\y=.int j/\d=.bl (g i j)):R2D K (rI0 λi j=>.bl (g i j)) f:=λO H x y dx dy d Q _ ix iy e k=>by
 obtain⟨i,j,rfl,rfl,rfl⟩:=hf dx dy d e;exact⟨i,j,ix,iy,k _ H (Same.refl _) rfl⟩
theorem nS {K} {g:Int->Int->Int} (hf:∀x y d,f x y=some d->∃i j,x=.int i/\y=.int j/\C i j/\d=.int (g i j)):R2D K (rI C λi j=>.int (g i j)) f:=λO H x y dx dy d Q _ ix iy e k=>by
 obtain⟨i,j,rfl,rfl,hc,rfl⟩:=hf dx dy d e;exact⟨i,j,ix,iy,hc,k _ H (Same.refl _) rfl⟩
theorem eJ {f:Int->Int->Option D} {x y d:D} (h:(match x,y with|.int i,.int j=>f i j|_,_=>none)=some d):∃i j,x=.int i/\y=.int j/\f i j=some d:=by
 cases x<;>cases y<;>first|exact⟨_,_,rfl,rfl,h⟩|cases h
theorem FU {K}:R2D K (rI0 λi j=>.int (i+j)) C8:=tu λx y d e=>by
 obtain⟨i,j,h1,h2,e⟩:=eJ (f:=λi j=>some (.int (i+j))) e;cases e;exact⟨_,_,h1,h2,rfl⟩
theorem FV {K}:R2D K (rI0 λi j=>.int (i-j)) cQ:=tu λx y d e=>by
 obtain⟨i,j,h1,h2,e⟩:=eJ (f:=λi j=>some (.int (i-j))) e;cases e;exact⟨_,_,h1,h2,rfl⟩
theorem ay {α:Type} [Decidable c] {a b:α} (h:(if c then some a else none)=some b):c/\a=b:=by
 split at h
 ·exact⟨by assumption,Option.some.inj h⟩
 ·cases h
theorem FW {K}:R2D K (rI CMul λi j=>.int (i*j)) aL:=nS λx y d e=>by
 obtain⟨i,j,h1,h2,e⟩:=eJ (f:=λi j=>if CMul i j then some (.int (i*j))else none) e;obtain⟨c,e⟩:=ay e;cases e;exact⟨_,_,h1,h2,c,rfl⟩
theorem FX {K}:R2D K (rI wy λi j=>.int (i/j)) jL:=nS λx y d e=>by
 obtain⟨i,j,h1,h2,e⟩:=eJ (f:=λi j=>if wy i j then some (.int (i/j))else none) e;obtain⟨c,e⟩:=ay e;cases e;exact⟨_,_,h1,h2,c,rfl⟩
theorem FY {K}:R2D K (rI (λ_ j=>0<j) λi j=>.int (i%j)) bj:=nS λx y d e=>by
 obtain⟨i,j,h1,h2,e⟩:=eJ (f:=λi j=>if 0<j then some (.int (i%j))else none) e;obtain⟨c,e⟩:=ay e;cases e;exact⟨_,_,h1,h2,c,rfl⟩
theorem r_ltI {K}:R2D K (rI0 λi j=>.bl (decide (i<j))) ltI:=gX λx y d e=>by
 obtain⟨i,j,h1,h2,e⟩:=eJ (f:=λi j=>some (.bl (decide (i<j)))) e;cases e;exact⟨_,_,h1,h2,rfl⟩
theorem qZ {K}:R2D K (rI0 λi j=>.bl (decide (i<=j))) leD:=gX λx y d e=>by
 obtain⟨i,j,h1,h2,e⟩:=eJ (f:=λi j=>some (.bl (decide (i<=j)))) e;cases e;exact⟨_,_,h1,h2,rfl⟩
theorem FZ {K}:R2D K (rI0 λi j=>.bl (decide (j<i))) gtI:=gX λx y d e=>by
 obtain⟨i,j,h1,h2,e⟩:=eJ (f:=λi j=>some (.bl (decide (j<i)))) e;cases e;exact⟨_,_,h1,h2,rfl⟩
theorem F3 {K}:R2D K (rI0 λi j=>.bl (decide (j<=i))) geD:=gX λx y d e=>by
 obtain⟨i,j,h1,h2,e⟩:=eJ (f:=λi j=>some (.bl (decide (j<=i)))) e;cases e;exact⟨_,_,h1,h2,rfl⟩
theorem eu {K}:∀ {ds:List D} {ns:List Int} {xs:List V},bU ds=some ns->IsL K H ds xs->xs=ns.map V.int
 |[],ns,xs,e,h=>by cases e;exact h
 |.int i::ds,ns,xs,e,⟨x,r,e1,h1,l⟩=>by
  obtain⟨ms,e2,e3⟩:=bind_some (show(bU ds).bind (λxs=>some (i::xs))=some ns from e);cases e3;cases(show x=.int i from h1);rw[e1,eu e2 l];rfl
theorem F4 {K}:R2D K (λx y H Q=>rI0 (λi j=>.bl (decide (i<j))) x y H Q\/FS K x y H Q) ltD:=λO H x y dx dy d Q hd ix iy e k=>by
 unfold ltD at e;cases h:ltI dx dy with
 |some z=>rw[h]at e;cases e;exact .inl (r_ltI O H x y dx dy _ Q hd ix iy h k)
 |none=>
  rw[h]at e;have e:ltL dx dy=some d:=e;unfold ltL at e;split at e
  ·obtain⟨ns,e1,e⟩:=bind_some e;obtain⟨ms,e2,e⟩:=bind_some e;cases e;obtain⟨a,xs,rfl,t1,l1⟩:=ix;obtain⟨b,ys,rfl,t2,l2⟩:=iy;rw[eu e1 l1]at t1;rw[eu e2 l2]at t2;exact .inr ⟨a,b,ns,ms,rfl,rfl,msk_le.seq t1,msk_le.seq t2,k _ H (Same.refl _) rfl⟩
  ·cases e
theorem F5 {K}:R2D K (rI0 λi j=>.bl (decide (j<i))) gtD:=FZ
theorem Ai (ha:PP X a fa) (hb:PP X b fb):PP X (.BinOp a .Add b pos) (aa C8 fa fb):=pH CO FU ha hb
theorem C9 (ha:PP X a fa) (hb:PP X b fb):PP X (.BinOp a .Sub b pos) (aa cQ fa fb):=pH CP FV ha hb
theorem Da (ha:PP X a fa) (hb:PP X b fb):PP X (.BinOp a .Mult b pos) (aa aL fa fb):=pH CQ FW ha hb
theorem Db (ha:PP X a fa) (hb:PP X b fb):PP X (.BinOp a .FloorDiv b pos) (aa jL fa fb):=pH Ah FX ha hb
theorem Dc (ha:PP X a fa) (hb:PP X b fb):PP X (.BinOp a .Mod b pos) (aa bj fa fb):=pH CS FY ha hb
theorem F6 (hu:X.A.units<cLine) (ha:PP X a fa) (hb:PP X b fb):PP X (.Compare a [.Lt] [b] pos) (aa ltD fa fb):=pp_cmp (op_lt.or (wv hu)) F4 ha hb (cP _)
theorem F7 (ha:PP X a fa) (hb:PP X b fb):PP X (.Compare a [.LtE] [b] pos) (aa leD fa fb):=pp_cmp ki qZ ha hb (cP _)
theorem F8 (hu:X.A.units<cLine) (ha:PP X a fa) (hb:PP X b fb):PP X (.Compare a [.Gt] [b] pos) (aa gtD fa fb):=pp_cmp BV F5 ha hb (cP _)
theorem F9 (ha:PP X a fa) (hb:PP X b fb):PP X (.Compare a [.GtE] [b] pos) (aa geD fa fb):=pp_cmp BW F3 ha hb (cP _)
theorem Ga (hu:X.A.units<cLine) (ha:PP X a fa) (hb:PP X b fb):PQ X (.Compare a [.Lt] [b] pos) (au (aa ltD fa fb)):=pq_cmp (op_lt.or (wv hu)) F4 ha hb (cP _)
theorem Gc (ha:PP X a fa) (hb:PP X b fb):PQ X (.Compare a [.LtE] [b] pos) (au (aa leD fa fb)):=pq_cmp ki qZ ha hb (cP _)
theorem Ge (hu:X.A.units<cLine) (ha:PP X a fa) (hb:PP X b fb):PQ X (.Compare a [.Gt] [b] pos) (au (aa gtD fa fb)):=pq_cmp BV F5 ha hb (cP _)
theorem Gf (ha:PP X a fa) (hb:PP X b fb):PQ X (.Compare a [.GtE] [b] pos) (au (aa geD fa fb)):=pq_cmp BW F3 ha hb (cP _)
theorem pp_lelt (ha:PP X a fa) (hb:PP X b fb) (hc:PP X c fc) (hm:lastMarks [.LtE,.Lt] [b,c]=false:=by with_unfolding_all rfl):PP X (.Compare a [.LtE,.Lt] [b,c] pos) (bI leD ltI fa fb fc):=pI ki op_lt qZ r_ltI ha hb hc hm
theorem pp_lele (ha:PP X a fa) (hb:PP X b fb) (hc:PP X c fc) (hm:lastMarks [.LtE,.LtE] [b,c]=false:=by with_unfolding_all rfl):PP X (.Compare a [.LtE,.LtE] [b,c] pos) (bI leD leD fa fb fc):=pI ki ki qZ qZ ha hb hc hm
theorem pq_lele (ha:PP X a fa) (hb:PP X b fb) (hc:PP X c fc) (hm:lastMarks [.LtE,.LtE] [b,c]=false:=by with_unfolding_all rfl):PQ X (.Compare a [.LtE,.LtE] [b,c] pos) (au (bI leD leD fa fb fc)):=wx ki ki qZ qZ ha hb hc hm
noncomputable def eU (fa fb:Vv->Option D):Vv->Option D:=λY=>(fa Y).bind λx=>x.asB.bind λc=>if c=true then fb Y else some (.bl false)
noncomputable def orF (fa fb:Vv->Option D):Vv->Option D:=λY=>(fa Y).bind λx=>x.asB.bind λc=>if c=true then some (.bl true)else fb Y
def wz (fa:Vv->Option D):Vv->Option D:=λY=>(fa Y).bind λx=>x.asB.bind λc=>some (.bl (!c))
noncomputable def uP (fa fb:Vv->Option Bool):Vv->Option Bool:=λY=>(fa Y).bind λc=>if c=true then fb Y else some false
noncomputable def orQ (fa fb:Vv->Option Bool):Vv->Option Bool:=λY=>(fa Y).bind λc=>if c=true then some true else fb Y
def bP (fa:Vv->Option Bool):Vv->Option Bool:=λY=>(fa Y).map (!·)
noncomputable def ifF (fc:Vv->Option Bool) (fa fb:Vv->Option D):Vv->Option D:=λY=>(fc Y).bind λc=>if c=true then fa Y else fb Y
variable {a b c:Expr} {rest:List Expr}
theorem Dd (h:PP X a f):PP X (.BoolOp op [a] pos) f:=λO Y=>CF (h O Y)
theorem De (ha:PP X a fa) (hb:PP X (.BoolOp .And (b::rest) pos) fb):PP X (.BoolOp .And (a::b::rest) pos) (eU fa fb):=λO Y=>(CG (ha O Y) (hb O Y)).imp λσ H Q ⟨E,d,e,k⟩=>by
 obtain⟨dx,e1,eb⟩:=bind_some e;obtain⟨c,e2,ec⟩:=bind_some eb;clear e eb;have e:=ec;clear ec;cases asB_some e2;refine⟨E,_,e1,λv H1 s1 i1=>⟨c,i1,?_⟩⟩;cases c with
 |true=>rw[if_pos rfl]at e⊢;exact⟨E.grow s1,d,e,λv' H2 s2 i2=>k v' H2 (s1.trans s2) i2⟩
 |false=>rw[if_neg Bool.false_ne_true]at e⊢;cases e;exact k _ H1 s1 rfl
theorem Dg (ha:PP X a fa):PP X (.UnaryOp .Not a pos) (wz fa):=λO Y=>(CH (ha O Y)).imp λσ H Q ⟨E,d,e,k⟩=>by
 obtain⟨dx,e1,eb⟩:=bind_some e;obtain⟨c,e2,ec⟩:=bind_some eb;clear e eb;have e:=ec;clear ec;cases asB_some e2;cases e;exact⟨E,_,e1,λv H1 s1 i1=>⟨c,i1,k _ H1 s1 rfl⟩⟩
def PWQ (X:Cx) (e:Expr) (f:Vv->Option Bool):Prop:=∀O Y,PW X e (tPT X.K O Y (f Y))
theorem PWQ.pq (h:PWQ X a f):PQ X a f:=λO Y=>(h O Y).pt
theorem PW.imp (h:PW X e t) (k:∀σ H Q,t' σ H Q->t σ H Q):PW X e t':=λwh pins s σ H Q I q=>h wh pins s σ H Q I (k _ _ _ q)
theorem pw_and1D (h:PQ X a f):PWQ X (.BoolOp .And [a] pos) f:=λO Y=>pw_and1 (h O Y)
theorem pw_or1D (h:PQ X a f):PWQ X (.BoolOp .Or [a] pos) f:=λO Y=>pw_or1 (h O Y)
theorem pw_andD (ha:PQ X a fa) (hb:PWQ X (.BoolOp .And (b::rest) pos) fb):PWQ X (.BoolOp .And (a::b::rest) pos) (uP fa fb):=λO Y=>(pw_and (ha O Y) (hb O Y)).imp λσ H Q ⟨E,d,e,k⟩=>by
 obtain⟨c,e1,eb⟩:=bind_some e;clear e;have e:=eb;clear eb;refine⟨E,c,e1,λH1 s1=>?_⟩;cases c with
 |true=>rw[if_pos rfl]at e⊢;exact⟨E.grow s1,d,e,λH2 s2=>k H2 (s1.trans s2)⟩
 |false=>rw[if_neg Bool.false_ne_true]at e⊢;cases e;exact k H1 s1
theorem pw_orD (ha:PQ X a fa) (hb:PWQ X (.BoolOp .Or (b::rest) pos) fb):PWQ X (.BoolOp .Or (a::b::rest) pos) (orQ fa fb):=λO Y=>(pw_or (ha O Y) (hb O Y)).imp λσ H Q ⟨E,d,e,k⟩=>by
 obtain⟨c,e1,eb⟩:=bind_some e;clear e;have e:=eb;clear eb;refine⟨E,c,e1,λH1 s1=>?_⟩;cases c with
 |true=>rw[if_pos rfl]at e⊢;cases e;exact k H1 s1
 |false=>rw[if_neg Bool.false_ne_true]at e⊢;exact⟨E.grow s1,d,e,λH2 s2=>k H2 (s1.trans s2)⟩
theorem Dh (ha:PQ X a fa):PQ X (.UnaryOp .Not a pos) (bP fa):=λO Y=>(CD (ha O Y)).imp λσ H Q ⟨E,d,e,k⟩=>by
 unfold bP at e;cases q:fa Y with
 |none=>rw[q]at e;cases e
 |some c=>rw[q]at e;cases e;exact⟨E,c,rfl,λH1 s1=>k H1 s1⟩
theorem Gg (hc:PQ X c fc) (ha:PP X a fa) (hb:PP X b fb):PP X (.IfExp c a b pos) (ifF fc fa fb):=λO Y=>(vN (hc O Y) (ha O Y) (hb O Y)).imp λσ H Q ⟨E,d,e,k⟩=>by
 obtain⟨c,e1,eb⟩:=bind_some e;clear e;have e:=eb;clear eb;refine⟨E,c,e1,λH1 s1=>?_⟩;cases c with
 |true=>rw[if_pos rfl]at e⊢;exact⟨E.grow s1,d,e,λv' H2 s2 i2=>k v' H2 (s1.trans s2) i2⟩
 |false=>rw[if_neg Bool.false_ne_true]at e⊢;exact⟨E.grow s1,d,e,λv' H2 s2 i2=>k v' H2 (s1.trans s2) i2⟩
noncomputable def uQ:D->Option Bool
 |.bl b=>some b
 |.int i=>some (i !=0)
 |.non=>some false
 |.lst ds=>some (!ds.isEmpty)
 |.tup ds=>some (!ds.isEmpty)
 |_=>none
theorem ju {α β:Type} {a:List α} {b:List β} (h:a.length=b.length):a.isEmpty=b.isEmpty:=by
 cases a<;>cases b<;>first|rfl|simp at h
theorem pq_val (h:PP X a f) (he:∀whole,isTrue a X.env whole=(do let v<-whole;standAt a.pos;holding [v] (truthy v)):=by intro _;rfl):PQ X a (λY=>(f Y).bind uQ):=λO Y=>(vW (h O Y) he).imp λσ H Q ⟨E,b,e,k⟩=>by
 obtain⟨d,e1,e⟩:=bind_some e;refine⟨E,d,e1,λv H1 s1 i1=>⟨b,?_,k H1 s1⟩⟩;cases d with
 |bl c=>cases e;cases(show v=.bl b from i1);rfl
 |int i=>cases e;cases(show v=.int i from i1);rfl
 |non=>cases e;cases(show v=.non from i1);rfl
 |lst ds=>
  cases e;obtain⟨p,xs,rfl,q,l⟩:=i1;exact .inl ⟨xs,msk_le.seq q,by rw[ju l.len]⟩
 |tup ds=>
  cases e;obtain⟨p,xs,rfl,q,l⟩:=i1;exact .inr (.inl ⟨xs,msk_le.seqT q,by rw[ju l.len]⟩)
 |_=>cases e
end
def big:Nat:=16777216
theorem dW:sizeLine=big:=sizeLine_eq
section
variable {X:Cx} {pos:Pos} {a b c e:Expr} {es:List Expr}
theorem Di:PX X [] (λ_=>some []):=λO Y=>pa_nil.imp λσ H Q ⟨E,ds,e,k⟩=>by
 cases e;exact k [] H (Same.refl _) rfl
noncomputable def ae (f:Vv->Option D) (g:Vv->Option (List D)):Vv->Option (List D):=λY=>(f Y).bind λd=>(g Y).bind λr=>some (d::r)
theorem px_cons (h:PP X e f) (hr:PX X es g) (hs:starEach (e::es) X.env=(false,eval e X.env)::starEach es X.env:=by rfl):PX X (e::es) (ae f g):=
 λO Y=>(bM (h O Y) (hr O Y) hs).imp λσ H Q ⟨E,ds,q,k⟩=>by
 obtain⟨d,e1,q⟩:=bind_some q
 obtain⟨r,e2,q⟩:=bind_some q
 cases q
 exact⟨E,d,e1,λv H1 s1 i1=>⟨E.grow s1,r,e2,λvs H2 s2 i2=>k (v::vs) H2 (s1.trans s2) ⟨v,vs,rfl,Is.mono s2.msk d v i1,i2⟩⟩⟩
def bJ (o:Option (List D)):Option (List D):=o.bind λds=>if ds.length<big then some ds else none
theorem cm (h:bJ o=some ds):o=some ds/\ds.length<sizeLine:=by
 obtain⟨d,e1,e2⟩:=bind_some h;obtain⟨h1,h2⟩:=ay e2;subst h2;exact⟨e1,by rw[dW];exact h1⟩
theorem Dj {x1} (h:PX X es g):PP X (.Tuple es x1 pos) (λY=>(bJ (g Y)).bind λds=>some (.tup ds)):=λO Y=>(vZ (h O Y)).imp λσ H Q ⟨E,d,q,k⟩=>by
 obtain⟨ds,z,q2⟩:=bind_some q;cases q2;obtain⟨e1,e2⟩:=cm z;refine⟨E,ds,e1,λvs H1 s1 l=>⟨by rw[<-l.len];exact Nat.le_of_lt e2,λp hp=>?_⟩⟩;have hO:=(E.grow s1).fresh hp;have le:Same (msk O H1) (msk O (upd H1 p (.tup vs))):=by rw[tq hO];exact Same.new (by rw[aG hO];exact hp)
 exact k _ _ (s1.trans (Same.new hp)) ⟨p,vs,rfl,.of (by rw[aG hO,ah]),IsL.mono le _ _ l⟩
theorem Dk (h:PX X es g):PF X (.List es pos) (λY=>bJ (g Y)):=λO Y=>(wa (h O Y)).imp λσ H Q ⟨E,ds,q,k⟩=>by
 obtain⟨e1,e2⟩:=cm q;exact⟨E,ds,e1,λvs H1 s1 l=>⟨by rw[<-l.len];exact Nat.le_of_lt e2,λp hp=>k p vs H1 s1 hp l⟩⟩
def uR:D->Option Key
 |.int i=>some (.inl i)
 |.str x=>some (.inr x)
 |_=>none
theorem nT {K} (e:uR d=some k) (h:Is K H d v):v=kV k:=by
 cases d with
 |int i=>cases e;exact h
 |str x=>cases e;exact h
 |_=>cases e
noncomputable def pJ:List Key->List D->Key->Option D
 |k::ks,d::ds,j=>if k=j then some d else pJ ks ds j
 |_,_,_=>none
theorem valD_val {K}:∀ {kvs:List (Key×V)} {ds:List D},IsL K H ds (kvs.map (·.2))->(pJ (kvs.map (·.1)) ds j=none/\gR kvs j=none)\/∃d v,pJ (kvs.map (·.1)) ds j=some d/\gR kvs j=some v/\Is K H d v
 |[],ds,_=>.inl ⟨by cases ds<;>rfl,rfl⟩
 |p::r,[],h=>by cases(show(p::r).map (·.2)=[]from h)
 |p::r,d::ds,⟨x,t,z,h,l⟩=>by
  have z':p.2::r.map (·.2)=x::t:=z;cases z';show((if p.1=j then some d else pJ (r.map (·.1)) ds j)=none/\_)\/∃d' v,(if p.1=j then some d else pJ (r.map (·.1)) ds j)=some d'/\_;by_cases e:p.1=j
  ·rw[if_pos e,gS e];exact .inr ⟨d,p.2,rfl,rfl,h⟩
  ·rw[if_neg e,gT e];exact valD_val l
def Gh:R2:=λx y H Q=>∃p kvs k v,x=.ref p/\y=kV k/\Rd H p (.dK kvs)/\gR kvs k=some v/\Q v H
theorem Aj:IxR X Gh:=by
 intro value slice pins s σ H x y v u Q I rx ry h hs;obtain⟨p,kvs,k,z,rfl,rfl,e,l,q⟩:=h;cases rx;obtain⟨_,hd,vs,rel,dd⟩:=tf I.hok e;obtain⟨w',hw,rw'⟩:=RelO.some_of (v:=z) (o:=valueAt vs k) (by rw[<-l];exact rel.val k);exact tail_any dd.typeIs PySem.F.slot_dict_getitem.lookup (wpAny_getItem_of (pF ry) dd.mapOf hw ⟨z,H,I.tok _,rw',q⟩) hs
noncomputable def ixD:D->D->Option D
 |.lst ds,.int i=>atI ds i
 |.tup ds,.int i=>atI ds i
 |.dct ks ds,e=>(uR e).bind (pJ ks ds)
 |_,_=>none
theorem tw {xs:List β} {d:α} (hl:ds.length=xs.length) (h:atI ds i=some d):∃j:Nat,ds[j]?=some d/\atI xs i=xs[j]?:=by
 obtain⟨j,e1,e2⟩:=bind_some h;refine⟨j,e2,?_⟩;show(ixN xs.length i).bind _=_;rw[<-hl,e1];rfl
theorem Jb {K}:R2D K (λx y H Q=>rIx K x y H Q\/Gh x y H Q) ixD:=λO H x y dx dy d Q hd ix iy e k=>by
 cases dx with
 |lst ds=>
  cases dy with
  |int i=>
   obtain⟨p,xs,rfl,q,l⟩:=ix;cases(show y=.int i from iy);obtain⟨j,e1,e2⟩:=tw l.len (show atI ds i=some d from e);obtain⟨v,e3,iv⟩:=l.get e1;exact .inl (.inl ⟨p,xs,i,v,rfl,rfl,msk_le.seq q,e2.trans e3,k v H (Same.refl _) iv⟩)
  |_=>cases e
 |tup ds=>
  cases dy with
  |int i=>
   obtain⟨p,xs,rfl,q,l⟩:=ix;cases(show y=.int i from iy);obtain⟨j,e1,e2⟩:=tw l.len (show atI ds i=some d from e);obtain⟨v,e3,iv⟩:=l.get e1;exact .inl (.inr (.inl ⟨p,xs,i,v,rfl,rfl,msk_le.seqT q,e2.trans e3,k v H (Same.refl _) iv⟩))
  |_=>cases e
 |dct ks ds=>
  obtain⟨p,kvs,rfl,q,rfl,l⟩:=ix;obtain⟨j,e1,e2⟩:=bind_some (show(uR dy).bind _=some d from e);rcases valD_val (j:=j) l with⟨z,_⟩|⟨d',v,z,hv,iv⟩
  ·rw[z]at e2;cases e2
  ·rw[z]at e2;cases e2;exact .inr ⟨p,kvs,j,v,rfl,nT e1 iy,msk_le.rd q,hv,k v H (Same.refl _) iv⟩
 |_=>cases e
theorem pp_ix (ha:PP X a fa) (hb:PP X b fb) (hs:jY b:=by exactλ_ _=>rfl):PP X (.Subscript a b pos) (aa ixD fa fb):=λO Y=>(BY (ix_seq.or Aj) (ha O Y) (hb O Y) hs).imp λσ H Q h=>jZ Jb h
noncomputable def RnD (K:Frag) (r:List V->Hp->VK->Prop) (g:List D->Option D):Prop:=∀ (O:Addr->Bool) (H:Hp) (xs:List V) (ds:List D) (d:D) (Q:VK),(∀b,O b=true->H b≠none)->IsL K (msk O H) ds xs->g ds=some d->
 (∀v H',Same H H'->Is K (msk O H') d v->Q v H')->r xs H Q
variable {x:Str} {p:Pos} {bid T:String} {r:List V->Hp->VK->Prop} {g:List D->Option D} {fa:Vv->Option (List D)}
theorem pp_callB (hc:dk X (.builtin bid) r) (hr:RnD X.K r g) (hg:Gl X x) (hm:X.mg x=none) (hv:bootBuiltins x=some (.builtin bid)) (ha:PX X (e::es) fa) (hn:x≠"__name__":=by decide) (hdb:(x==("__debug__":Str))=false:=by decide)
  (he:starEach (e::es) X.env=(false,eval e X.env)::starEach es X.env:=by rfl) (hpl:(backTo pos (starEach es X.env)).any (·.1)=false:=by rfl):PP X (.Call (.Name x p) (e::es) [] pos) (λY=>(fa Y).bind g):=
 λO Y=>(kn hc hg hm hv (ha O Y) hn hdb he hpl).imp λσ H Q ⟨E,d,q,k⟩=>by
 obtain⟨ds,e1,q⟩:=bind_some q
 exact⟨E,ds,e1,λvs H1 s1 l=>hr O H1 vs ds d Q (E.grow s1).dom l q λv H2 s2 i2=>k v H2 (s1.trans s2) i2⟩
theorem pp_callTy (hc:dk X (.type T) r) (hr:RnD X.K r g) (hg:Gl X x) (hm:X.mg x=none) (hv:bootBuiltins x=some (.type T)) (ha:PX X (e::es) fa) (hn:x≠"__name__":=by decide) (hdb:(x==("__debug__":Str))=false:=by decide)
  (he:starEach (e::es) X.env=(false,eval e X.env)::starEach es X.env:=by rfl) (hpl:(backTo pos (starEach es X.env)).any (·.1)=false:=by rfl):PP X (.Call (.Name x p) (e::es) [] pos) (λY=>(fa Y).bind g):=
 λO Y=>(mW hc hg hm hv (ha O Y) hn hdb he hpl).imp λσ H Q ⟨E,d,q,k⟩=>by
 obtain⟨ds,e1,q⟩:=bind_some q
 exact⟨E,ds,e1,λvs H1 s1 l=>hr O H1 vs ds d Q (E.grow s1).dom l q λv H2 s2 i2=>k v H2 (s1.trans s2) i2⟩
def un1 {α:Type} (g:D->Option α) (ds:List D):Option α:=match ds with
 |[d]=>g d
 |_=>none
def un2 {α:Type} (g:D->D->Option α) (ds:List D):Option α:=match ds with
 |[c,d]=>g c d
 |_=>none
theorem bu {g} {r:α} (h:un1 g ds=some r):∃d,ds=[d]/\g d=some r:=by
 cases ds with
 |nil=>cases h
 |cons d t=>
  cases t with
  |nil=>exact⟨d,rfl,h⟩
  |cons _ _=>cases h
theorem kL {g} {r:α} (h:un2 g ds=some r):∃c d,ds=[c,d]/\g c d=some r:=by
 cases ds with
 |nil=>cases h
 |cons c t=>
  cases t with
  |nil=>cases h
  |cons d u=>
   cases u with
   |nil=>exact⟨c,d,rfl,h⟩
   |cons _ _=>cases h
theorem is1 {K} (l:IsL K H [d] xs):∃v,xs=[v]/\Is K H d v:=by
 obtain⟨v,r,z,h,z2⟩:=l;cases(show r=[]from z2);exact⟨v,z,h⟩
theorem is2 {K} {c d} (l:IsL K H [c,d] xs):∃u v,xs=[u,v]/\Is K H c u/\Is K H d v:=by
 obtain⟨u,r,z,h,l2⟩:=l;obtain⟨v,z2,h2⟩:=is1 l2;subst z2;exact⟨u,v,z,h,h2⟩
def seqD:D->Option (List D)
 |.lst ds=>some ds
 |.tup ds=>some ds
 |_=>none
theorem gY {K} (e:seqD d=some ds) (h:Is K H d v):∃p xs,v=.ref p/\(SqL K H p xs\/SqT K H p xs)/\IsL K H ds xs:=by
 cases d with
 |lst es=>cases e;obtain⟨p,xs,z,q,l⟩:=h;exact⟨p,xs,z,.inl q,l⟩
 |tup es=>cases e;obtain⟨p,xs,z,q,l⟩:=h;exact⟨p,xs,z,.inr q,l⟩
 |_=>cases e
theorem Same.both {K} {a} (s:Same H H') (h:SqL K H a xs\/SqT K H a xs):SqL K H' a xs\/SqT K H' a xs:=by
 rcases h with h|h
 ·exact .inl (s.seq h)
 ·exact .inr (s.seqT h)
def cq:List D->Option D:=un1 λd=>(seqD d).bind λds=>some (.int ds.length)
theorem rn_len:RnD X.K (λxs H Q=>∃p ys,xs=[.ref p]/\(SqL X.K H p ys\/SqT X.K H p ys)/\Q (.int ys.length) H) cq:=λO H xs ds d Q hd l e k=>by
 obtain⟨c,rfl,e⟩:=bu e;obtain⟨es,e1,e2⟩:=bind_some e;cases e2;obtain⟨v,rfl,h⟩:=is1 l;obtain⟨p,ys,rfl,q,l2⟩:=gY e1 h;exact⟨p,ys,rfl,msk_le.both q,k _ H (Same.refl _) (by show V.int ys.length=.int es.length;rw[l2.len])⟩
def m6:List D->Option (List D):=un1 seqD
theorem Ak (hg:Gl X "list") (hm:X.mg "list"=none) (hv:bootBuiltins "list"=some (.type "list")) (ha:PX X [e] fa) (he:starEach [e] X.env=[(false,eval e X.env)]:=by rfl):PF X (.Call (.Name "list" p) [e] [] pos) (λY=>(fa Y).bind m6):=
 λO Y=>(mW nQ hg hm hv (ha O Y) (by decide) (by decide) he rfl).imp λσ H Q ⟨E,ds,q,k⟩=>by
 obtain⟨as,e1,q⟩:=bind_some q
 refine⟨E,as,e1,λvs H1 s1 l=>?_⟩
 obtain⟨c,rfl,q2⟩:=bu q
 obtain⟨v,rfl,h⟩:=is1 l
 obtain⟨p,ys,rfl,t,l2⟩:=gY q2 h
 exact⟨p,ys,rfl,msk_le.both t,λb hb=>k b ys H1 s1 hb l2⟩
def bQ:List D->Option D:=un1 λd=>(seqD d).bind λds=>some (.tup ds)
theorem rn_tuple:RnD X.K (λxs H Q=>∃p ys,xs=[.ref p]/\((SqL X.K H p ys/\∀l,H l=none->Q (.ref l) (upd H l (.tup ys)))\/(SqT X.K H p ys/\Q (.ref p) H))) bQ:=λO H xs ds d Q hd l e k=>by
 obtain⟨c,rfl,e⟩:=bu e;obtain⟨es,e1,e2⟩:=bind_some e;cases e2;obtain⟨v,rfl,h⟩:=is1 l;obtain⟨p,ys,rfl,q,l2⟩:=gY e1 h;refine⟨p,ys,rfl,?_⟩;rcases q with q|q
 ·refine .inl ⟨msk_le.seq q,λc hc=>?_⟩;have hO:=gW hd hc;have le:Same (msk O H) (msk O (upd H c (.tup ys))):=by rw[tq hO];exact Same.new (by rw[aG hO];exact hc)
  exact k _ _ (Same.new hc) ⟨c,ys,rfl,.of (by rw[aG hO,ah]),IsL.mono le _ _ l2⟩
 ·exact .inr ⟨msk_le.seqT q,k _ H (Same.refl _) ⟨p,ys,rfl,q,l2⟩⟩
theorem kM:∀ {bs:List Bool} {us:List Value},Vals (bs.map V.bl) us->us=bs.map Value.bool
 |[],_,.nil=>rfl
 |b::bs,_,.cons r t=>by
  cases(show _=Value.bool b from r);rw[kM t];rfl
theorem m8:∀ (bs:List Bool),((List.range bs.length).all λi=>bs.getD i true)=bs.all (λz=>z)
 |[]=>rfl
 |b::bs=>by
  rw[length_cons,List.range_succ_eq_map,List.all_cons,List.all_map,List.all_cons,<-m8 bs];rfl
theorem call_all (hc:X.calm=true):dk X (.builtin "all") (λxs H Q=>∃ (p:Addr) (bs:List Bool),xs=[.ref p]/\SqL X.K H p (bs.map V.bl)/\Q (.bl (bs.all (λz=>z))) H):=by
 intro pins s σ H xs us Q I r h;obtain⟨l,bs,rfl,hl,q⟩:=h;obtain⟨u,rfl,ru⟩:=f6 r;cases ru;obtain⟨its,rv,pl,hz⟩:=I.list hl;have eb:=kM rv;subst eb;have hL:=pl.isList;have hlt:l<s.heap.objs.size:=by obtain⟨_,e,_⟩:=hL;exact Heap.lt_size e
 refine call_all_walk (wpAny_pyIter_list hL ?_);refine⟨s.heap.objs.size,[s.heap.objs.size,l],[s.heap.objs.size],_,_,_,λi=>bs.getD i true,rfl,Walks.list (A:=X.A.in1) (I.ok.hd hc) _ l (Nat.ne_of_lt hlt) (bs.map Value.bool).toArray,
  ⟨⟨_,Heap.get?_push_size _ rfl,rfl,rfl⟩,hL.push _⟩,λi v s' Q' E' hP hQ=>?_,λh' tk hk=>?_⟩
 ·have hP':(bs.map Value.bool)[i]?=some v:=by simpa using hP
  rw[getElem?_map]at hP';cases e:bs[i]? with
  |none=>rw[e]at hP';cases hP'
  |some b=>
   rw[e]at hP';cases hP';have e':bs.getD i true=b:=by rw[List.getD_eq_getElem?_getD,e];rfl
   dsimp only at hQ;rw[e']at hQ;exact wpAny_truthy_bool hQ
 ·have e:((List.range (bs.map Value.bool).toArray.size).all λi=>bs.getD i true)=bs.all (λz=>z):=by
   rw[size_toArray,length_map];exact m8 bs
  rw[e];exact⟨.bl _,H,I.kept (t':=tk) λb o ho=>hk b o (λhm=>by rw[mem_singleton.mp hm]at ho;exact Nat.lt_irrefl _ (Heap.lt_size ho)) (Heap.get?_push_of_some _ ho),rfl,q⟩
def uS:List D->Option (List Bool)
 |[]=>some []
 |d::ds=>d.asB.bind λb=>(uS ds).bind λr=>some (b::r)
def eV:D->Option (List D)
 |.lst ds=>some ds
 |_=>none
theorem cH {K} (e:eV d=some ds) (h:Is K H d v):∃p xs,v=.ref p/\SqL K H p xs/\IsL K H ds xs:=by
 cases d with
 |lst es=>cases e;exact h
 |_=>cases e
def q0:List D->Option D:=un1 λd=>(eV d).bind λds=>(uS ds).bind λbs=>some (.bl (bs.all (λz=>z)))
theorem nU {K}:∀ {ds:List D} {bs:List Bool} {xs:List V},uS ds=some bs->IsL K H ds xs->xs=bs.map V.bl
 |[],_,_,e,l=>by cases e;exact l
 |d::ds,_,_,e,⟨x,r,z,h,l⟩=>by
  obtain⟨b,e1,e⟩:=bind_some e;obtain⟨bs,e2,e⟩:=bind_some e;cases e;cases asB_some e1;rw[z,nU e2 l,show x=.bl b from h];rfl
theorem rn_all:RnD X.K (λxs H Q=>∃ (p:Addr) (bs:List Bool),xs=[.ref p]/\SqL X.K H p (bs.map V.bl)/\Q (.bl (bs.all (λz=>z))) H) q0:=λO H xs ds d Q hd l e k=>by
 obtain⟨c,rfl,e⟩:=bu e;obtain⟨es,e1,e2⟩:=bind_some e;obtain⟨bs,e3,e4⟩:=bind_some e2;cases e4;obtain⟨v,rfl,h⟩:=is1 l;obtain⟨p,ys,rfl,q,l2⟩:=cH e1 h;rw[nU e3 l2]at q;exact⟨p,bs,rfl,msk_le.seq q,k _ H (Same.refl _) rfl⟩
def aT:D->Bool
 |.non=>true
 |.bl _=>true
 |.int _=>true
 |.str _=>true
 |_=>false
def toV:D->V
 |.non=>.non
 |.bl b=>.bl b
 |.int i=>.int i
 |.str x=>.str x
 |_=>.non
theorem j0 {K} (f:aT d=true) (h:Is K H d v):v=toV d/\eX v=true:=by
 cases d<;>first|(cases(show v=_ from h);exact⟨rfl,rfl⟩)|cases f
theorem kN {K}:∀ {ds:List D} {xs:List V},ds.all aT=true->IsL K H ds xs->xs=ds.map toV/\xs.all eX=true
 |[],_,_,l=>by cases(show _=[]from l);exact⟨rfl,rfl⟩
 |d::ds,_,f,⟨x,r,z,h,l⟩=>by
  rw[List.all_cons,and_eq_true]at f;obtain⟨e1,e2⟩:=j0 f.1 h;obtain⟨e3,e4⟩:=kN f.2 l;rw[z];exact⟨by rw[e1,e3];rfl,by rw[List.all_cons,e2,e4];rfl⟩
def inL (x:D) (ds:List D):Bool:=inV (toV x) (ds.map toV)
noncomputable def inD:D->D->Option D
 |x,.lst ds=>if aT x&&ds.all aT then some (.bl (inL x ds))else none
 |x,.tup ds=>if aT x&&ds.all aT then some (.bl (inL x ds))else none
 |x,.dct ks _=>(uR x).bind λk=>some (.bl (ks.any λj=>decide (j=k)))
 |_,_=>none
noncomputable def Jc:R2:=λx y H Q=>∃p kvs k,y=.ref p/\x=kV k/\Rd H p (.dK kvs)/\Q (.bl (kvs.any λkv=>decide (kv.1=k))) H
def Gi (K:Frag):R2:=λx y H Q=>rIn K false x y H Q\/Jc x y H Q
theorem op_inA (hu:X.A.units+1<cLine):OpR X (compareOp .In) (Gi X.K):=λpins s σ H x y v u Q I rx ry h=>by
 rcases h with h|⟨p,kvs,k,rfl,rfl,e,q⟩
 ·exact uK pins s σ H x y v u Q I rx ry h
 ·cases ry;refine Ja hu I (.inl ⟨kvs,k,e,rfl,rfl⟩) rx λs' I'=>⟨.bl (gR kvs k).isSome,H,I',rfl,?_⟩;rw[pE]at q;exact q
theorem r_in {K}:R2D K (Gi K) inD:=λO H x y dx dy d Q hd ix iy e k=>by
 cases dy with
 |lst ds=>
  obtain⟨h1,h2⟩:=ay (show(if(aT dx&&ds.all aT)=true then _ else none)=some d from e);rw[and_eq_true]at h1;subst h2;obtain⟨p,xs,rfl,q,l⟩:=iy;obtain⟨e1,e2⟩:=j0 h1.1 ix;obtain⟨e3,e4⟩:=kN h1.2 l;exact .inl ⟨p,xs,rfl,.inl (msk_le.seq q),e2,e4,k _ H (Same.refl _) (by rw[e1,e3];rfl)⟩
 |dct ks ds=>
  obtain⟨j,e1,e2⟩:=bind_some (show(uR dx).bind _=some d from e);cases e2;obtain⟨p,kvs,rfl,q,rfl,_⟩:=iy;exact .inr ⟨p,kvs,j,rfl,nT e1 ix,msk_le.rd q,k _ H (Same.refl _) (by show V.bl _=V.bl _;rw[List.any_map];rfl)⟩
 |tup ds=>
  obtain⟨h1,h2⟩:=ay (show(if(aT dx&&ds.all aT)=true then _ else none)=some d from e);rw[and_eq_true]at h1;subst h2;obtain⟨p,xs,rfl,q,l⟩:=iy;obtain⟨e1,e2⟩:=j0 h1.1 ix;obtain⟨e3,e4⟩:=kN h1.2 l;exact .inl ⟨p,xs,rfl,.inr (msk_le.seqT q),e2,e4,k _ H (Same.refl _) (by rw[e1,e3];rfl)⟩
 |_=>cases e
noncomputable def bV:D->Option String
 |.non=>some "NoneType"
 |.bl _=>some "bool"
 |.int _=>some "int"
 |.str _=>some "str"
 |.tup _=>some "tuple"
 |.lst _=>some "list"
 |_=>none
def isI (T n:String):Bool:=T==n||(T=="bool"&&n=="int")
def tz (n:String):Bool:=["int","bool","str","list","tuple","dict"].contains n
theorem wA (K:Frag) (hT:bV d=some T) (hn:tz n=true):PySem.W.kitOne K (.type T) (.type n)=some (isI T n):=by
 have hn':n="int"\/n="bool"\/n="str"\/n="list"\/n="tuple"\/n="dict":=by
  simpa [tz] using hn
 cases d<;>first
  |(cases hT;rcases hn' with rfl|rfl|rfl|rfl|rfl|rfl<;>rfl)
  |cases hT
theorem Al {σ:St} {x} {u c} {b} (I:Inv X pins σ H s) (h:Is X.K H d x) (rx:RelV x u) (hT:bV d=some T) (e:PySem.W.kitOne X.K (.type T) c=some b) (hq:∀tk,Q (.bool b) {s with toks:=tk}):wpAny (model X.prog X.w) A (call (.builtin "isinstance") [u,c]) Q E s:=by
 cases d with
 |non=>cases hT;cases(show x=_ from h);cases(show u=Value.none from rx);exact PySem.W.kia_one PySem.W.kitx_none I.kIn True.intro e (λz=>nomatch z) hq
 |bl y=>cases hT;cases(show x=_ from h);cases(show u=Value.bool y from rx);exact PySem.W.kia_one PySem.W.kitx_bool I.kIn True.intro e (λz=>nomatch z) hq
 |int i=>cases hT;cases(show x=_ from h);obtain⟨t,q⟩:=(show∃t,u=Value.int i t from rx);cases q;exact PySem.W.kia_one PySem.W.kitx_int I.kIn True.intro e (λz=>nomatch z) hq
 |str i=>cases hT;cases(show x=_ from h);obtain⟨t,q⟩:=(show∃t,u=Value.str i t from rx);cases q;exact PySem.W.kia_one PySem.W.kitx_str I.kIn True.intro e (λz=>nomatch z) hq
 |tup ds=>
  cases hT;obtain⟨a,xs,rfl,q,l⟩:=h;cases(show u=Value.ref a from rx);obtain⟨its,_,⟨o,h1,h2,_⟩,_⟩:=I.tuple q;exact PySem.W.kia_one PySem.W.kitx_tuple I.kIn ⟨o,h1,h2⟩ e (λz=>nomatch z) hq
 |lst ds=>
  cases hT;obtain⟨a,xs,rfl,q,l⟩:=h;cases(show u=Value.ref a from rx);obtain⟨its,_,⟨o,n,h1,h2,_⟩,_⟩:=I.list q;exact PySem.W.kia_one PySem.W.kitx_list I.kIn ⟨o,h1,h2⟩ e (λz=>nomatch z) hq
 |_=>cases hT
theorem Am {σ:St} {x} {b} (I:Inv X pins σ H s) (h:Is X.K H d x) (rx:RelV x u) (hT:bV d=some T) (htp:s.heap.get? tp=some ⟨.type "tuple",dd,.seq its.toArray n,sl⟩) (e:PySem.W.kitAny X.K (.type T) its=some b) (hq:∀tk,Q (.bool b) {s with toks:=tk}):wpAny (model X.prog X.w) A (call (.builtin "isinstance") [u,.ref tp]) Q E s:=by
 cases d with
 |non=>cases hT;cases(show x=_ from h);cases(show u=Value.none from rx);exact PySem.W.kia_tup PySem.W.kitx_none I.kIn True.intro htp e (λz=>nomatch z) hq
 |bl y=>cases hT;cases(show x=_ from h);cases(show u=Value.bool y from rx);exact PySem.W.kia_tup PySem.W.kitx_bool I.kIn True.intro htp e (λz=>nomatch z) hq
 |int i=>cases hT;cases(show x=_ from h);obtain⟨t,q⟩:=(show∃t,u=Value.int i t from rx);cases q;exact PySem.W.kia_tup PySem.W.kitx_int I.kIn True.intro htp e (λz=>nomatch z) hq
 |str i=>cases hT;cases(show x=_ from h);obtain⟨t,q⟩:=(show∃t,u=Value.str i t from rx);cases q;exact PySem.W.kia_tup PySem.W.kitx_str I.kIn True.intro htp e (λz=>nomatch z) hq
 |tup ds=>
  cases hT;obtain⟨a,xs,rfl,q,l⟩:=h;cases(show u=Value.ref a from rx);obtain⟨its,_,⟨o,h1,h2,_⟩,_⟩:=I.tuple q;exact PySem.W.kia_tup PySem.W.kitx_tuple I.kIn ⟨o,h1,h2⟩ htp e (λz=>nomatch z) hq
 |lst ds=>
  cases hT;obtain⟨a,xs,rfl,q,l⟩:=h;cases(show u=Value.ref a from rx);obtain⟨its,_,⟨o,n,h1,h2,_⟩,_⟩:=I.list q;exact PySem.W.kia_tup PySem.W.kitx_list I.kIn ⟨o,h1,h2⟩ htp e (λz=>nomatch z) hq
 |_=>cases hT
def tyD:D->Option String
 |.ty n=>if tz n then some n else none
 |_=>none
theorem pK (h:tyD d=some n):d=.ty n/\tz n=true:=by
 cases d with
 |ty m=>obtain⟨h1,h2⟩:=ay h;subst h2;exact⟨rfl,h1⟩
 |_=>cases h
noncomputable def wB:List D->Option (List String)
 |[]=>some []
 |d::ds=>(tyD d).bind λn=>(wB ds).bind λr=>some (n::r)
def Gj:D->Option (List D)
 |.tup ds=>some ds
 |_=>none
theorem An {K} (e:Gj d=some ds) (h:Is K H d v):∃p xs,v=.ref p/\SqT K H p xs/\IsL K H ds xs:=by
 cases d with
 |tup es=>cases e;exact h
 |_=>cases e
def kO (c:D):Option (List String):=match tyD c with
 |some n=>some [n]
 |none=>(Gj c).bind wB
def eZ:List D->Option D:=un2 λd c=>(bV d).bind λT=>(kO c).bind λns=>some (.bl (ns.any (isI T)))
theorem m9 {K} (hT:bV d=some T):∀ {cs:List D} {ns:List String} {xs:List V} {us:List Value},wB cs=some ns->IsL K H cs xs->Vals xs us->PySem.W.kitAny K (.type T) us=some (ns.any (isI T))
 |[],_,_,_,e,l,r=>by
  cases e;cases(show _=[]from l);cases r;rfl
 |c::cs,ns,_,_,e,⟨x,xr,z,h,l⟩,r=>by
  obtain⟨n,e1,e2⟩:=bind_some e;obtain⟨ms,e3,e4⟩:=bind_some e2;cases e4;obtain⟨rfl,hk⟩:=pK e1;subst z;cases r with
  |cons r1 r2=>
   cases(show x=.ty n from h);cases(show _=Value.type n from r1);show(match PySem.W.kitOne K (.type T) (.type n)with|some true=>some true|some false=>PySem.W.kitAny K (.type T) _|none=>none)=_;rw[wA K hT hk,m9 hT e3 l r2,List.any_cons];cases isI T n<;>rfl
theorem call_isi:dk X (.builtin "isinstance") (λxs H Q=>∃d c T ns,IsL X.K H [d,c] xs/\bV d=some T/\kO c=some ns/\Q (.bl (ns.any (isI T))) H):=by
 intro pins s σ H xs us Q I r h;obtain⟨d,c,T,ns,l,hT,e,q⟩:=h;obtain⟨x,y,rfl,hx,hy⟩:=is2 l;obtain⟨u,w',rfl,r1,r2⟩:=vX r;unfold kO at e;split at e
 ·rename_i n hn;cases e;obtain⟨rfl,hk⟩:=pK hn;cases(show y=.ty n from hy);cases(show w'=Value.type n from r2);refine Al I hx r1 hT (wA X.K hT hk) λtk=>⟨.bl _,H,I.tok tk,rfl,?_⟩;have e1:([n].any (isI T))=isI T n:=by simp
  rw[e1]at q;exact q
 ·obtain⟨cs,e1,e2⟩:=bind_some e;obtain⟨tp,ys,rfl,hq,hl⟩:=An e1 hy;cases(show w'=Value.ref tp from r2);obtain⟨its,rv,⟨o,h1,h2,n,h3⟩,_⟩:=I.tuple hq;obtain⟨oc,od,oda,osl⟩:=o;cases(show oc=_ from h2);cases(show oda=_ from h3);exact Am I hx r1 hT h1 (m9 hT e2 hl rv) λtk=>⟨.bl _,H,I.tok tk,rfl,q⟩
theorem rn_isi:RnD X.K (λxs H Q=>∃d c T ns,IsL X.K H [d,c] xs/\bV d=some T/\kO c=some ns/\Q (.bl (ns.any (isI T))) H) eZ:=λO H xs ds d Q hd l e k=>by
 obtain⟨d0,c,rfl,e⟩:=kL e;obtain⟨T,e1,e2⟩:=bind_some e;obtain⟨ns,e3,e4⟩:=bind_some e2;cases e4;exact⟨d0,c,T,ns,l.full,e1,e3,k _ H (Same.refl _) rfl⟩
end
theorem PE.ex {ι:Type} {t:ι->TE} (h:∀z,PE X e (t z)):PE X e (λσ H Q=>∃z,t z σ H Q):=λpins s σ H Q I ⟨z,q⟩=>h z pins s σ H Q I q
theorem PTs.ex {ι:Type} {t:ι->TT} (h:∀z,PTs X e (t z)):PTs X e (λσ H Q=>∃z,t z σ H Q):=λpins s σ H Q I ⟨z,q⟩=>h z pins s σ H Q I q
theorem PG.ex {ι:Type} {t:ι->TG} (h:∀z,PG X e (t z)):PG X e (λv σ H Q=>∃z,t z v σ H Q):=λpins s σ H v u Q I r ⟨z,q⟩=>h z pins s σ H v u Q I r q
theorem PSs.ex {ι:Type} {t:ι->TS} (h:∀z,PSs X e (t z)):PSs X e (λD σ H=>∃z,t z D σ H):=λpins s σ H D I ⟨z,q⟩=>h z pins s σ H D I q
noncomputable def ng (K:Frag) (Hm:Hp) (J:It) (ds:List D):Prop:=∀ (i:Nat) (H:Hp) (O:Addr->Bool),Same Hm (msk O H)->(∀b,O b=true->H b≠none)->
 (∀d,ds[i]?=some d->J.go i H/\∀x H3,J.yld i H x H3->Same H H3/\Is K (msk O H3) d x)/\(ds.length<=i->J.stop i H)
noncomputable def tJ (K:Frag) (O:Addr->Bool) (Y:Vv) (o:Option (List D)):TI:=λσ H R=>VE K O σ H Y/\∃ds,o=some ds/\∀J H',Same H H'->ng K (msk O H') J ds->R J H'
def PJ (X:Cx) (tg iter:Expr) (f:Vv->Option (List D)):Prop:=∀O Y,PI X tg iter (tJ X.K O Y (f Y))
section
variable {X:Cx} {tg l e:Expr} {pos:Pos}
noncomputable def Jd (K:Frag) (tl:TE):TI:=λσ H R=>tl σ H λx H1=>∃a,x=.ref a/\(((∃xs,SqL K H1 a xs)/\R (Itl K a) H1)\/((∃xs,SqT K H1 a xs)/\R (Itt K a) H1))
theorem Dl (hl:PE X l tl):PI X tg l (Jd X.K tl):=by
 intro pins s σ H R I h;refine thn (hl pins s σ H _ I h) λv s1 ⟨x,H1,I1,r1,q1⟩=>?_;obtain⟨a,e,q⟩:=q1;subst e;cases r1;have fin:∀b∈[s1.heap.objs.size],gq X pins H1 b:=λb hb=>by
  have e:b=s1.heap.objs.size:=by simpa using hb
  subst e;exact I1.fpOk (le_refl _) (I1.hok.fresh (le_refl _))
 rcases q with⟨⟨xs,hq⟩,q⟩|⟨⟨xs,hq⟩,q⟩
 ·obtain⟨its,rv,p,hz⟩:=I1.list hq;refine wpAny_pyIter_list p.isList ?_;exact⟨s1.heap.objs.size,[s1.heap.objs.size],_,_,H1,rfl,I1.kept (t':=s1.toks) λb o e=>Heap.get?_push_of_some _ e,uE a _,⟨_,Heap.get?_push_size _ rfl,rfl,rfl⟩,fin,q⟩
 ·obtain⟨its,rv,p,hz⟩:=I1.tuple hq;refine wpAny_pyIter_tuple (show s1.heap.IsTuple a its.toArray from p) ?_;exact⟨s1.heap.objs.size,[s1.heap.objs.size],_,_,H1,rfl,I1.kept (t':=s1.toks) λb o e=>Heap.get?_push_of_some _ e,qJ a _,⟨_,Heap.get?_push_size _ rfl,rfl,rfl⟩,fin,q⟩
theorem uT {K} (q:SqL K Hm a xs) (il:IsL K Hm ds xs):ng K Hm (Itl K a) ds:=λi H O s hd=>by
 have q':SqL K H a xs:=(s.trans msk_le).seq q;refine⟨λd hi=>?_,λhi=>⟨xs,q',by rw[<-il.len];exact hi⟩⟩;obtain⟨x,hx,ix⟩:=il.get hi;refine⟨⟨xs,x,q',hx⟩,λy H3 ⟨e,hy⟩=>?_⟩;subst e;have:=hy xs q';rw[hx]at this;cases this;exact⟨Same.refl _,Is.mono s d x ix⟩
theorem wC {K} (q:SqT K Hm a xs) (il:IsL K Hm ds xs):ng K Hm (Itt K a) ds:=λi H O s hd=>by
 have q':SqT K H a xs:=(s.trans msk_le).seqT q;refine⟨λd hi=>?_,λhi=>⟨xs,q',by rw[<-il.len];exact hi⟩⟩;obtain⟨x,hx,ix⟩:=il.get hi;refine⟨⟨xs,x,q',hx⟩,λy H3 ⟨e,hy⟩=>?_⟩;subst e;have:=hy xs q';rw[hx]at this;cases this;exact⟨Same.refl _,Is.mono s d x ix⟩
theorem Dm (h:PP X l f):PJ X tg l (λY=>(f Y).bind seqD):=λO Y=>(Dl (h O Y)).imp λσ H R ⟨E,ds,q,k⟩=>by
 obtain⟨d,e1,q⟩:=bind_some q;refine⟨E,d,e1,λv H1 s1 i1=>?_⟩;obtain⟨a,xs,rfl,t,il⟩:=gY q i1;rcases t with t|t
 ·exact⟨a,rfl,.inl ⟨⟨xs,msk_le.seq t⟩,k _ H1 s1 (uT t il)⟩⟩
 ·exact⟨a,rfl,.inr ⟨⟨xs,msk_le.seqT t⟩,k _ H1 s1 (wC t il)⟩⟩
def jM (lo:Int) (n:Nat):List D:=(List.range n).map λ(i:Nat)=>D.int (lo+(i:Int))
theorem q9 {K} {lo}:ng K Hm (Itr lo n) (jM lo n):=λi H O s hd=>by
 have hl:(jM lo n).length=n:=by simp[jM]
 refine⟨λd hi=>?_,λhi=>by rw[hl]at hi;exact hi⟩;have hin:i<n:=by
  have:=(List.getElem?_eq_some_iff.mp hi).1;rw[hl]at this;exact this
 refine⟨hin,λx H3 ⟨e,hx⟩=>?_⟩;subst e hx;have:d=.int (lo+(i:Int)):=by
  simp[jM,hin]at hi;exact hi.symm
 subst this;exact⟨Same.refl _,rfl⟩
def intD:D->Option Int
 |.int i=>some i
 |_=>none
theorem intD_some (h:intD d=some i):d=.int i:=by
 cases d<;>first|(cases h;rfl)|cases h
def inR (j:Int):Prop:=-(2^62)<=j/\j<2^62
instance (j:Int):Decidable (inR j):=Classical.propDecidable _
noncomputable def kP:List D->Option (List D):=un1 λd=>(intD d).bind λj=>if inR j then some (jM 0 j.toNat)else none
theorem uU (hg:Gl X "range") (hm:X.mg "range"=none) (ha:PX X [e] fa) (hs:starEach [e] X.env=[(false,eval e X.env)]:=by rfl):PJ X tg (.Call (.Name "range" p) [e] [] pos) (λY=>(fa Y).bind kP):=
 λO Y=>(uF hg hm (ha O Y) hs).imp λσ H R ⟨E,ds,q,k⟩=>by
 obtain⟨as,e1,q⟩:=bind_some q
 refine⟨E,as,e1,λvs H1 s1 il=>?_⟩
 obtain⟨c,rfl,q1⟩:=bu q
 obtain⟨j,q2,q3⟩:=bind_some q1
 obtain⟨h1,h2⟩:=ay q3
 subst h2
 obtain⟨v,rfl,iv⟩:=is1 il
 cases intD_some q2
 have h1':-(2^62)<=j/\j<2^62:=h1
 exact⟨j,by rw[show v=.int j from iv],h1'.1,h1'.2,k _ H1 s1 q9⟩
noncomputable def tG (K:Frag) (O:Addr->Bool) (Y:Vv) (d:D) (ks:List Nat) (o:Option Vv):TG:=λv σ H Q=>VE K O σ H Y/\Is K (msk O H) d v/\∃Y',o=some Y'/\
 ∀σ',VE K O σ' H Y'->σ'.length=σ.length->(∀ (j:Nat) (w:V),j ∉ ks->σ[j]?=some (some w)->σ'[j]?=some (some w))->Q σ' H
noncomputable def PGD (X:Cx) (ks:List Nat) (tg:Expr) (g:D->Vv->Option Vv):Prop:=∀O Y d,PG X tg (tG X.K O Y d ks (g d Y))
noncomputable def tGs (K:Frag) (O:Addr->Bool) (Y:Vv) (ds:List D) (ks:List Nat) (o:Option Vv):TGs:=λvs σ H Q=>VE K O σ H Y/\IsL K (msk O H) ds vs/\∃Y',o=some Y'/\
 ∀σ',VE K O σ' H Y'->σ'.length=σ.length->(∀ (j:Nat) (w:V),j ∉ ks->σ[j]?=some (some w)->σ'[j]?=some (some w))->Q σ' H
noncomputable def uV (X:Cx) (ks:List Nat) (ts:List Expr) (g:List D->Vv->Option Vv):Prop:=∀O Y ds,PGs X ts (tGs X.K O Y ds ks (g ds Y))
def gNm (i:Nat):D->Vv->Option Vv:=λd Y=>some (Y.set i (some d))
theorem Ao (hN:X.N.Nodup) (hi:X.N[i]?=some x) (hx:Loc X.env.scope x) (hk:i∈ks) (hf:X.fn x=true\/X.env.scope.names.lookup x=some .local:=by first|exact .inl rfl|exact .inr rfl|assumption):PGD X ks (.Name x pos) (gNm i):=
 λO Y d=>(sS hN hi hx hf).imp λv σ H Q ⟨E,iv,Y',e,k⟩=>by
 cases e
 refine k _ (E.set iv) (by simp) λj w hj hw=>?_
 rw[List.getElem?_set_ne (λ(z:i=j)=>hj (by rw[<-z];exact hk))];exact hw
theorem PGs.imp (h:PGs X ts t) (k:∀v σ H Q,t' v σ H Q->t v σ H Q):PGs X ts t':=λpins s σ H vs us Q I r q=>h pins s σ H vs us Q I r (k _ _ _ _ q)
def e8:List D->Vv->Option Vv:=λds Y=>match ds with|[]=>some Y|_=>none
noncomputable def bf (g:D->Vv->Option Vv) (gs:List D->Vv->Option Vv):List D->Vv->Option Vv:=λds Y=>match ds with|d::r=>(g d Y).bind λY1=>gs r Y1|_=>none
theorem Ap:uV X ks [] e8:=λO Y ds=>pgs_nil.imp λvs σ H Q ⟨E,il,Y',e,k⟩=>by
 cases ds with
 |nil=>cases e;exact⟨il,k σ E rfl λ_ _ _ h=>h⟩
 |cons _ _=>cases e
theorem PGs.ex {e} {ι:Type} {t:ι->TGs} (h:∀z,PGs X e (t z)):PGs X e (λv σ H Q=>∃z,t z v σ H Q):=λpins s σ H v u Q I r ⟨z,q⟩=>h z pins s σ H v u Q I r q
theorem gsd_cons (h1:PGD X ks e g) (h2:uV X ks ts gs) (hs:(assignEach (e::ts) X.env).map (·.2)=assign e X.env::(assignEach ts X.env).map (·.2):=by rfl):uV X ks (e::ts) (bf g gs):=λO Y ds=>by
 cases ds with
 |nil=>exactλpins s σ H vs us Q I r ⟨_,_,Y',e,_⟩=>by cases e
 |cons d r=>
  refine(pf (h1 O Y d) (PGs.ex λz:Vv=>h2 O z r) hs).imp λvs σ H Q ⟨E,⟨x,xr,z,ix,il⟩,Y',e,k⟩=>?_;obtain⟨Y1,e1,e2⟩:=bind_some (show(g d Y).bind _=some Y' from e);refine⟨x,xr,z,E,ix,Y1,e1,λσ1 E1 l1 k1=>⟨Y1,E1,il,Y',e2,λσ2 E2 l2 k2=>?_⟩⟩;exact k σ2 E2 (l2.trans l1) λj w hj hw=>k2 j w hj (k1 j w hj hw)
noncomputable def gTp (n:Nat) (gs:List D->Vv->Option Vv):D->Vv->Option Vv:=λd Y=>match d with|.tup ds=>if ds.length=n then gs ds Y else none|_=>none
theorem Dn {k n} (hc:X.calm=true) (h:uV X ks ts gs) (hn:(assignEach ts X.env).length=n:=by rfl) (hst:(assignEach ts X.env).findIdx? (·.1)=none:=by rfl):PGD X ks (.Tuple ts k pos) (gTp n gs):=λO Y d=>by
 refine(vQ hc (PGs.ex λz:List D=>h O Y z) hn hst).imp λv σ H Q ⟨E,iv,Y',e,k⟩=>?_;cases d with
 |tup ds=>
  obtain⟨a,xs,rfl,t,il⟩:=iv;have e':(if ds.length=n then gs ds Y else none)=some Y':=e;split at e'
  ·exact⟨a,xs,rfl,msk_le.seqT t,by rw[<-il.len];assumption,ds,E,il,Y',e',k⟩
  ·cases e'
 |_=>cases e
end
noncomputable def jv (step:D->Option (Option D)):List D->Option (List D)
 |[]=>some []
 |d::ds=>(step d).bind λo=>(jv step ds).bind λr=>some (match o with|some y=>y::r|none=>r)
noncomputable def gZ (g:D->Vv->Option Vv) (ft:Vv->Option Bool) (fe:Vv->Option D) (Y:Vv) (d:D):Option (Option D):=(g d Y).bind λY1=>(ft Y1).bind λc=>if c=true then(fe Y1).bind λy=>some (some y)else some none
noncomputable def aq (ks:List Nat) (fi:Vv->Option (List D)) (g:D->Vv->Option Vv) (ft:Vv->Option Bool) (fe:Vv->Option D):Vv->Option (List D):=λY=>(fi Y).bind λds=>bJ (jv (gZ g ft fe (c8 ks Y)) ds)
def PQs (X:Cx) (ifs:List Expr) (f:Vv->Option Bool):Prop:=∀O Y,PTs X ifs (tPT X.K O Y (f Y))
theorem PTs.imp (h:PTs X ifs t) (k:∀σ H Q,t' σ H Q->t σ H Q):PTs X ifs t':=λpins s σ H Q I q=>h pins s σ H Q I (k _ _ _ q)
theorem Aq:PQs X [] (λ_=>some true):=λO Y=>pts_nil.imp λσ H Q ⟨E,b,e,k⟩=>by cases e;exact k H (Same.refl _)
theorem Ar (h:PQ X c f):PQs X [c] f:=λO Y=>Aa (h O Y)
section
variable {X:Cx} {tg iter elt:Expr} {pos:Pos}
noncomputable abbrev xG (K:Frag) (ks:List Nat) (g:D->Vv->Option Vv):TG:=λv σ H Q=>∃z:(Addr->Bool)×Vv×D,tG K z.1 z.2.1 z.2.2 ks (g z.2.2 z.2.1) v σ H Q
abbrev xT (K:Frag) (f:Vv->Option Bool):TT:=λσ H Q=>∃z:(Addr->Bool)×Vv,tPT K z.1 z.2 (f z.2) σ H Q
abbrev xE (K:Frag) (f:Vv->Option D):TE:=λσ H Q=>∃z:(Addr->Bool)×Vv,tP K z.1 z.2 (f z.2) σ H Q
theorem wD {K} (h:tPF K O Y (aq ks fi g ft fe Y) σ H Q):
  pD (tJ K O Y (fi Y)) ks (xG K ks g) (xT K ft) (xE K fe) σ H Q:=by
 obtain⟨E,tot,e,k⟩:=h
 obtain⟨ds,e1,e⟩:=bind_some e
 obtain⟨e2,hz⟩:=cm e
 refine⟨E,ds,e1,λJ H1 s1 it=>⟨λi m ys H2=>i<=ds.length/\m=ds.length-i/\Same H1 H2/\∃rs rest,IsL K (msk O H2) rs ys/\jv (gZ g ft fe (c8 ks Y)) (ds.drop i)=some rest/\tot=rs++rest,
  ⟨ds.length,Nat.zero_le _,by simp,Same.refl _,[],tot,rfl,by simpa using e2,rfl⟩,?_⟩⟩
 rintro i m ys H2 ⟨hi,rfl,s2,rs,rest,il,er,et⟩
 have E2:VE K O σ H2 Y:=E.grow (s1.trans s2)
 have hit:=it i H2 O s2.msk E2.dom
 have hlen:ys.length<sizeLine:=by
  rw[<-il.len];have:rs.length<=tot.length:=by rw[et,length_append];omega
  omega
 by_cases hlt:i<ds.length
 ·refine .inr ?_;have hd:ds[i]?=some ds[i]:=getElem?_eq_getElem hlt;obtain⟨go,yl⟩:=hit.1 _ hd;refine⟨go,hlen,λx H3 hy=>?_⟩;obtain⟨s3,ix⟩:=yl x H3 hy;rw[List.drop_eq_getElem_cons hlt]at er;obtain⟨o,eo,er⟩:=bind_some (show(gZ g ft fe (c8 ks Y) ds[i]).bind _=some rest from er);obtain⟨rest',er',er⟩:=bind_some er;obtain⟨Y1,g1,eo⟩:=bind_some eo;obtain⟨c,c1,eo⟩:=bind_some eo;refine⟨⟨O,c8 ks Y,ds[i]⟩,(E2.grow s3).wiped ks,ix,Y1,g1,λσ4 E4 l4 k4=>⟨⟨l4,λj w hw=>?_⟩,⟨O,Y1⟩,E4,c,c1,λH5 s5=>?_⟩⟩
  ·exact k4 j w (wipe_iff.mp hw).2 hw
  ·have hm:ds.length-(i+1)<ds.length-i:=by omega
   cases c with
   |true=>
    rw[if_pos rfl]at eo;refine C5 ?_;obtain⟨y,y1,eo⟩:=bind_some eo;cases eo;refine⟨⟨O,Y1⟩,E4.grow s5,y,y1,λv H6 s6 iv=>⟨_,hm,hlt,rfl,s2.trans (s3.trans (s5.trans s6)),rs++[y],rest',?_,er',?_⟩⟩
    ·exact(IsL.mono (s3.trans (s5.trans s6)).msk _ _ il).app ⟨v,[],rfl,iv,rfl⟩
    ·rw[et,<-Option.some.inj er,List.append_assoc];rfl
   |false=>
    rw[if_neg Bool.false_ne_true]at eo;refine C4 ?_;cases eo;refine⟨_,hm,hlt,rfl,s2.trans (s3.trans s5),rs,rest',IsL.mono (s3.trans s5).msk _ _ il,er',?_⟩;rw[et,<-Option.some.inj er]
 ·have hie:i=ds.length:=by omega
  subst hie;refine .inl ⟨hit.2 (le_refl _),Nat.le_of_lt hlen,λp hp=>?_⟩;rw[List.drop_of_length_le (le_refl _)]at er;cases er;rw[List.append_nil]at et;subst et;exact k p ys H2 (s1.trans s2) hp il
end
def pL (ns:List Int):Int:=ns.foldl (·+·) 0
theorem ni (ns:List Int):∀k,k<=ns.length->preSum (λi=>ns.getD i 0) k=pL (ns.take k)
 |0,_=>rfl
 |k+1,h=>by
  show preSum (λi=>ns.getD i 0) k+ns.getD k 0=_;rw[ni ns k (by omega),List.take_add_one,getElem?_eq_getElem (by omega),Option.toList_some];unfold pL;rw[List.foldl_append];simp[List.getD_eq_getElem?_getD,getElem?_eq_getElem (show k<ns.length by omega)]
section
variable {X:Cx} {a:Expr} {p pos:Pos}
theorem tB:∀ {ns:List Int} {us:List Value},Vals (ns.map V.int) us->∀ (i:Nat) (u:Value),us[i]?=some u->∃t,u=Value.int (ns.getD i 0) t
 |[],_,.nil,i,u,e=>by simp at e
 |n::ns,_,.cons r q,0,u,e=>by
  simp at e;subst e;obtain⟨t,e⟩:=r;exact⟨t,by rw[e];rfl⟩
 |n::ns,_,.cons r q,i+1,u,e=>by
  obtain⟨t,e'⟩:=tB q i u (by simpa using e);exact⟨t,by rw[e'];rfl⟩
theorem call_sumL (hc:X.calm=true):dk X (.builtin "sum") (λxs H Q=>∃ (l:Addr) (ns:List Int),xs=[.ref l]/\SqL X.K H l (ns.map V.int)/\Q (.int (pL ns)) H):=by
 intro pins s σ H xs us Q I r h;obtain⟨l,ns,rfl,hl,q⟩:=h;obtain⟨u,rfl,ru⟩:=f6 r;cases ru;obtain⟨its,rv,pl,hz⟩:=I.list hl;have hL:=pl.isList;have hlt:l<s.heap.objs.size:=by obtain⟨_,e,_⟩:=hL;exact Heap.lt_size e
 have hlen:its.length=ns.length:=by rw[<-rv.length,length_map]
 refine call_sum_walkAnyS (wpAny_pyIter_list hL ?_);refine⟨s.heap.objs.size,[s.heap.objs.size,l],[s.heap.objs.size],_,_,_,_,λi=>ns.getD i 0,rfl,(Walks.list (A:=X.A.in1) (I.ok.hd hc) _ l (Nat.ne_of_lt hlt) its.toArray).toS,
  ⟨⟨_,Heap.get?_push_size _ rfl,rfl,rfl⟩,hL.push _⟩,λb hb=>?_,λi v hP=>?_,λs' t' hk=>?_⟩
 ·rcases mem_cons.mp hb with rfl|hb
  ·show s.heap.objs.size<(s.heap.push _).objs.size;rw[size_push'];exact Nat.lt_succ_self _
  ·rw[mem_singleton.mp hb];show l<(s.heap.push _).objs.size;rw[size_push'];exact Nat.lt_succ_of_lt hlt
 ·exact tB rv i v (by simpa using hP)
 ·have e:preSum (λi=>ns.getD i 0) its.toArray.size=pL ns:=by
   rw[size_toArray,hlen,ni ns _ (le_refl _),List.take_length]
  rw[e];have es:s'={s with heap:=s'.heap,toks:=s'.toks}:=by
   have h1:=hk.gens;have h2:=hk.drawn;have h3:=hk.os;cases s';simp only at h1 h2 h3⊢;subst h1 h2 h3;rfl
  rw[es];exact⟨.int _,H,I.kept (t':=s'.toks) λb o ho=>hk.heap b o (λhm=>by rw[mem_singleton.mp hm]at ho;exact Nat.lt_irrefl _ (Heap.lt_size ho)) (Heap.get?_push_of_some _ ho),⟨_,rfl⟩,q⟩
noncomputable def uW:List D->Option (List Int)
 |[]=>some []
 |d::ds=>(intD d).bind λi=>(uW ds).bind λr=>some (i::r)
theorem tD {K}:∀ {ds:List D} {ns:List Int} {xs:List V},uW ds=some ns->IsL K H ds xs->xs=ns.map V.int
 |[],_,_,e,l=>by cases e;exact l
 |d::ds,_,_,e,⟨x,r,z,h,l⟩=>by
  obtain⟨i,e1,e⟩:=bind_some e;obtain⟨ns,e2,e⟩:=bind_some e;cases e;subst z;cases intD_some e1;rw[tD e2 l,show x=.int i from h];rfl
def nV:List D->Option D:=un1 λd=>(eV d).bind λds=>(uW ds).bind λns=>some (.int (pL ns))
theorem rn_sum {K}:RnD K (λxs H Q=>∃ (l:Addr) (ns:List Int),xs=[.ref l]/\SqL K H l (ns.map V.int)/\Q (.int (pL ns)) H) nV:=λO H xs ds d Q hd l e k=>by
 obtain⟨c,rfl,e⟩:=bu e;obtain⟨es,e1,e⟩:=bind_some e;obtain⟨ns,e2,e⟩:=bind_some e;cases e;obtain⟨v,rfl,h⟩:=is1 l;obtain⟨p,ys,rfl,q,il⟩:=cH e1 h;have:=tD e2 il;subst this;exact⟨p,ns,rfl,msk_le.seq q,k _ H (Same.refl _) rfl⟩
theorem b_sum:bootBuiltins "sum"=some (.builtin "sum"):=by decide+kernel
end
mutual
noncomputable def eqD:D->D->Bool
 |.non,.non=>true
 |.bl a,.bl b=>a==b
 |.bl a,.int b=>(if a then 1 else 0)==b
 |.int a,.bl b=>a==(if b then 1 else 0)
 |.int a,.int b=>a==b
 |.str a,.str b=>a==b
 |.tup a,.tup b=>eqL a b
 |.lst a,.lst b=>eqL a b
 |_,_=>false
noncomputable def eqL:List D->List D->Bool
 |[],[]=>true
 |a::as,b::bs=>eqD a b&&eqL as bs
 |_,_=>false
end
mutual
noncomputable def dep:D->Nat
 |.tup ds=>c9 ds+1
 |.lst ds=>c9 ds+1
 |_=>0
noncomputable def c9:List D->Nat
 |[]=>0
 |d::ds=>max (dep d) (c9 ds)
end
mutual
noncomputable def okE:D->Bool
 |.non=>true
 |.bl _=>true
 |.int _=>true
 |.str _=>true
 |.ty _=>false
 |.adr _=>false
 |.tup ds=>okL ds
 |.lst ds=>okL ds
 |.obj _ _ _=>false
 |.dct _ _=>false
noncomputable def okL:List D->Bool
 |[]=>true
 |d::ds=>okE d&&okL ds
end
mutual
theorem pM:∀d:D,okE d=true->eqD d d=true
 |.non,_=>rfl
 |.bl a,_=>by show(a==a)=true;simp
 |.int a,_=>by show(a==a)=true;simp
 |.str a,_=>by show(a==a)=true;simp
 |.ty _,h=>by cases h
 |.adr _,h=>by cases h
 |.tup ds,h=>ff ds h
 |.lst ds,h=>ff ds h
 |.obj _ _ _,h=>by cases h
 |.dct _ _,h=>by cases h
theorem ff:∀ds:List D,okL ds=true->eqL ds ds=true
 |[],_=>rfl
 |d::ds,h=>by
  have h':(okE d&&okL ds)=true:=h;rw[and_eq_true]at h';show(eqD d d&&eqL ds ds)=true;rw[pM d h'.1,ff ds h'.2];rfl
end
section
variable {X:Cx} {pins:List (Addr×Obj)} {σ:St} {H:Hp} {s:Shared}
theorem Inv.notBoth (I:Inv X pins σ H s) (h:SqT X.K H a xs) (h':SqL X.K H a ys):False:=by
 obtain⟨_,_,⟨o,e,c,_⟩,_⟩:=I.tuple h;obtain⟨_,_,⟨o',n,e',c',_⟩,_⟩:=I.list h';rw[e]at e';cases e';rw[c]at c';have:("tuple":String)="list":=by injection c'
 exact absurd this (by decide)
mutual
theorem Is.inj (I:Inv X pins σ H s):∀ (d e:D) (v:V),okE d=true->okE e=true->Is X.K H d v->Is X.K H e v->d=e
 |d,e,v,hd,he,h,h'=>by
  cases d with
  |non=>cases(show v=_ from h);cases e<;>first|exact(Bool.false_ne_true he).elim|rfl|(exact absurd (show V.non=_ from h') (by intro z;cases z))|(obtain⟨_,_,z,_⟩:=h';cases z)|cases he
  |bl b=>cases(show v=_ from h);cases e<;>first|exact(Bool.false_ne_true he).elim|(cases(show V.bl b=_ from h');rfl)|(exact absurd (show V.bl b=_ from h') (by intro z;cases z))|(obtain⟨_,_,z,_⟩:=h';cases z)|cases he
  |int b=>cases(show v=_ from h);cases e<;>first|exact(Bool.false_ne_true he).elim|(cases(show V.int b=_ from h');rfl)|(exact absurd (show V.int b=_ from h') (by intro z;cases z))|(obtain⟨_,_,z,_⟩:=h';cases z)|cases he
  |str b=>cases(show v=_ from h);cases e<;>first|exact(Bool.false_ne_true he).elim|(cases(show V.str b=_ from h');rfl)|(exact absurd (show V.str b=_ from h') (by intro z;cases z))|(obtain⟨_,_,z,_⟩:=h';cases z)|cases he
  |ty _=>cases hd
  |adr _=>cases hd
  |obj _ _ _=>cases hd
  |dct _ _=>cases hd
  |tup ds=>
   obtain⟨a,xs,rfl,q,l⟩:=h;cases e with
   |tup es=>
    obtain⟨a',ys,z,q',l'⟩:=h';cases z;cases I.tuple_inj q q';rw[IsL.inj I ds es xs hd he l l']
   |lst es=>
    obtain⟨a',ys,z,q',l'⟩:=h';cases z;exact(I.notBoth q q').elim
   |non=>exact absurd (show V.ref a=_ from h') (by intro z;cases z)
   |bl _=>exact absurd (show V.ref a=_ from h') (by intro z;cases z)
   |int _=>exact absurd (show V.ref a=_ from h') (by intro z;cases z)
   |str _=>exact absurd (show V.ref a=_ from h') (by intro z;cases z)
   |ty _=>cases he
   |adr _=>cases he
   |obj _ _ _=>cases he
   |dct _ _=>cases he
  |lst ds=>
   obtain⟨a,xs,rfl,q,l⟩:=h;cases e with
   |lst es=>
    obtain⟨a',ys,z,q',l'⟩:=h';cases z;cases I.list_inj q q';rw[IsL.inj I ds es xs hd he l l']
   |tup es=>
    obtain⟨a',ys,z,q',l'⟩:=h';cases z;exact(I.notBoth q' q).elim
   |non=>exact absurd (show V.ref a=_ from h') (by intro z;cases z)
   |bl _=>exact absurd (show V.ref a=_ from h') (by intro z;cases z)
   |int _=>exact absurd (show V.ref a=_ from h') (by intro z;cases z)
   |str _=>exact absurd (show V.ref a=_ from h') (by intro z;cases z)
   |ty _=>cases he
   |adr _=>cases he
   |obj _ _ _=>cases he
   |dct _ _=>cases he
theorem IsL.inj (I:Inv X pins σ H s):∀ (ds es:List D) (vs:List V),okL ds=true->okL es=true->IsL X.K H ds vs->IsL X.K H es vs->ds=es
 |[],[],_,_,_,_,_=>rfl
 |[],e::es,vs,_,_,h,⟨x,r,z,_⟩=>by cases(show vs=[]from h);cases z
 |d::ds,[],vs,_,_,⟨x,r,z,_⟩,h=>by cases(show vs=[]from h);cases z
 |d::ds,e::es,vs,hd,he,⟨x,r,z,h1,h2⟩,⟨x',r',z',h1',h2'⟩=>by
  cases z;cases z';have hd':(okE d&&okL ds)=true:=hd;have he':(okE e&&okL es)=true:=he;rw[and_eq_true]at hd' he';rw[Is.inj I d e x hd'.1 he'.1 h1 h1',IsL.inj I ds es r hd'.2 he'.2 h2 h2']
end
theorem bn:∀ (ds es:List D),(((List.range (min ds.length es.length)).all λj=>eqD (ds.getD j .non) (es.getD j .non))&&ds.length==es.length)=eqL ds es
 |[],[]=>rfl
 |[],e::es=>by simp[eqL]
 |d::ds,[]=>by simp[eqL]
 |d::ds,e::es=>by
  have ih:=bn ds es;show(((List.range (min (ds.length+1) (es.length+1))).all _)&&_)=(eqD d e&&eqL ds es);rw[<-ih,show min (ds.length+1) (es.length+1)=min ds.length es.length+1 by omega,List.range_succ_eq_map,List.all_cons,List.all_map];have e1:((d::ds).length==(e::es).length)=(ds.length==es.length):=by simp
  rw[e1,Bool.and_assoc];rfl
end
section
variable {X:Cx} {pins:List (Addr×Obj)} {σ:St} {H:Hp} {s:Shared}
theorem iI (A:Around):A.in1.units=A.units+1:=rfl
theorem j3:∀ {ds:List D} {i:Nat} {d:D},ds[i]?=some d->dep d<=c9 ds
 |[],_,_,h=>by simp at h
 |c::ds,0,d,h=>by
  simp at h;subst h;show dep c<=max (dep c) (c9 ds);omega
 |c::ds,i+1,d,h=>by
  have:=j3 (ds:=ds) (i:=i) (by simpa using h);show dep d<=max (dep c) (c9 ds);omega
theorem gv:∀ {ds:List D} {i:Nat} {d:D},okL ds=true->ds[i]?=some d->okE d=true
 |[],_,_,_,h=>by simp at h
 |c::ds,0,d,ho,h=>by
  simp at h;subst h;have ho':(okE c&&okL ds)=true:=ho;rw[and_eq_true]at ho';exact ho'.1
 |c::ds,i+1,d,ho,h=>by
  have ho':(okE c&&okL ds)=true:=ho;rw[and_eq_true]at ho';exact gv (ds:=ds) (i:=i) ho'.2 (by simpa using h)
theorem getD_some {ds:List D} (h:ds[i]?=some d):ds.getD i .non=d:=by rw[List.getD_eq_getElem?_getD,h];rfl
theorem ez (go:∀ (i:Nat) (d e:D) (x y:V) (u w:Value),ds[i]?=some d->es[i]?=some e->Is X.K H d x->Is X.K H e y->RelV x u->RelV y w->SeqAt.EqAt A s u w (eqD d e)) (il:IsL X.K H ds xs) (jl:IsL X.K H es ys) (r:Vals xs us) (q:Vals ys ws) (j:Nat) (h1:j<us.toArray.size) (h2:j<ws.toArray.size):SeqAt.EqAt A s us.toArray[j] ws.toArray[j] (eqD (ds.getD j .non) (es.getD j .non)):=by
 have hx:us[j]?=some us.toArray[j]:=by simp at h1⊢
 have hy:ws[j]?=some ws.toArray[j]:=by simp at h2⊢
 obtain⟨x,e1,r1⟩:=paired_get' r hx;obtain⟨y,e2,r2⟩:=paired_get' q hy;obtain⟨d,e3,i3⟩:=il.get' e1;obtain⟨e,e4,i4⟩:=jl.get' e2;rw[getD_some e3,getD_some e4];exact go j d e x y _ _ e3 e4 i3 i4 r1 r2
theorem iJ (h:Is X.K H d x) (f:aT d=true):eX x=true/\x=toV d:=let⟨a,b⟩:=j0 f h;⟨b,a⟩
theorem As (f:aT d=true) (g:aT e=true):eqV (toV d) (toV e)=eqD d e:=by
 cases d<;>cases e<;>first|exact(Bool.false_ne_true f).elim|exact(Bool.false_ne_true g).elim|rfl
theorem iK (ds es:List D) (h:ds.length=es.length):((List.range ds.length).all λj=>eqD (ds.getD j .non) (es.getD j .non))=eqL ds es:=by
 have:=bn ds es;rw[<-this,h];simp
theorem nW (h:ds.length≠es.length):eqL ds es=false:=by
 rw[<-bn ds es];have:(ds.length==es.length)=false:=by simpa using h
 rw[this,Bool.and_false]
theorem wE (I:Inv X pins σ H s):∀ (n:Nat) (A:Around) (d e:D) (x y:V) (u w:Value),dep d<=n->A.units+n<cLine->okE d=true->okE e=true->Is X.K H d x->Is X.K H e y->RelV x u->RelV y w->SeqAt.EqAt A s u w (eqD d e):=by
 intro n;induction n with
 |zero=>
  intro A d e x y u w hn hu od oe hx hy rx ry;have fd:aT d=true:=by
   cases d with
   |tup ds=>exact absurd (show c9 ds+1<=0 from hn) (by omega)
   |lst ds=>exact absurd (show c9 ds+1<=0 from hn) (by omega)
   |ty _=>cases od
   |adr _=>cases od
   |obj _ _ _=>cases od
   |dct _ _=>cases od
   |_=>rfl
  have hu':A.units<cLine:=by omega
  cases fe:aT e with
  |true=>
   obtain⟨f1,e1⟩:=iJ hx fd;obtain⟨f2,e2⟩:=iJ hy fe;rw[<-As fd fe,<-e1,<-e2];exact wg rx ry f1 f2
  |false=>
   cases e with
   |tup es=>
    obtain⟨b,ys,rfl,q,l⟩:=hy;cases ry;obtain⟨its,rv,p,_⟩:=I.tuple q;cases d with
    |non=>cases(show x=_ from hx);cases rx;exact SeqAt.EqAt.none_tuple p hu'
    |bl c=>cases(show x=_ from hx);cases rx;exact SeqAt.EqAt.bool_tuple c p hu'
    |int c=>cases(show x=_ from hx);obtain⟨t,rfl⟩:=rx;exact SeqAt.EqAt.int_tuple c t p hu'
    |str c=>cases(show x=_ from hx);obtain⟨t,rfl⟩:=rx;exact SeqAt.EqAt.str_tuple c t p hu'
    |_=>cases fd
   |lst es=>
    obtain⟨b,ys,rfl,q,l⟩:=hy;cases ry;obtain⟨its,rv,p,_⟩:=I.list q;cases d with
    |non=>cases(show x=_ from hx);cases rx;exact SeqAt.EqAt.none_list p.isList hu'
    |bl c=>cases(show x=_ from hx);cases rx;exact SeqAt.EqAt.bool_list c p.isList hu'
    |int c=>cases(show x=_ from hx);obtain⟨t,rfl⟩:=rx;exact SeqAt.EqAt.int_list c t p.isList hu'
    |str c=>cases(show x=_ from hx);obtain⟨t,rfl⟩:=rx;exact SeqAt.EqAt.str_list c t p.isList hu'
    |_=>cases fd
   |ty _=>cases oe
   |adr _=>cases oe
   |obj _ _ _=>cases oe
   |dct _ _=>cases oe
   |_=>cases fe
 |succ n ih=>
  intro A d e x y u w hn hu od oe hx hy rx ry;have hu':A.units<cLine:=by omega
  cases fd:aT d with
  |true=>
   have h0:dep d<=n:=by
    cases d<;>first|exact Nat.zero_le _|cases fd
   exact ih A d e x y u w h0 (by omega) od oe hx hy rx ry
  |false=>
   cases d with
   |tup ds=>
    have hdn:c9 ds<=n:=Nat.le_of_succ_le_succ (show c9 ds+1<=n+1 from hn);obtain⟨a,xs,rfl,q,l⟩:=hx;cases rx;obtain⟨its,rv,p,_⟩:=I.tuple q;cases e with
    |tup es=>
     obtain⟨b,ys,rfl,q',l'⟩:=hy;cases ry;obtain⟨its',rv',p',_⟩:=I.tuple q';by_cases hab:a=b
     ·subst hab;cases I.tuple_inj q q';cases IsL.inj I ds es xs od oe l l';rw[show eqD (.tup ds) (.tup ds)=true from ff ds od];exact SeqAt.EqAt.same _
     ·refine SeqAt.EqAt.of_refs hab ?_;have h:=SeqAt.RcAt.tuples (e:=λj=>eqD (ds.getD j .non) (es.getD j .non)) p p' hu' λj h1 h2=>ez (λi d e x y u w e1 e2 i1 i2 r1 r2=>ih A.in1 d e x y u w (Nat.le_trans (j3 e1) hdn) (by rw[iI];omega) (gv od e1) (gv oe e2) i1 i2 r1 r2) l l' rv rv' j h1 h2;have e1:its.toArray.size=ds.length:=by rw[size_toArray,<-rv.length,l.len]
      have e2:its'.toArray.size=es.length:=by rw[size_toArray,<-rv'.length,l'.len]
      rw[e1,e2,bn]at h;exact h
    |lst es=>
     obtain⟨b,ys,rfl,q',l'⟩:=hy;cases ry;obtain⟨its',rv',p',_⟩:=I.list q';exact SeqAt.EqAt.tuple_list p p'.isList hu'
    |non=>cases(show y=_ from hy);cases ry;exact SeqAt.EqAt.tuple_none p hu'
    |bl c=>cases(show y=_ from hy);cases ry;exact SeqAt.EqAt.tuple_bool c p hu'
    |int c=>cases(show y=_ from hy);obtain⟨t,rfl⟩:=ry;exact SeqAt.EqAt.tuple_int c t p hu'
    |str c=>cases(show y=_ from hy);obtain⟨t,rfl⟩:=ry;exact SeqAt.EqAt.tuple_str c t p hu'
    |ty _=>cases oe
    |adr _=>cases oe
    |obj _ _ _=>cases oe
    |dct _ _=>cases oe
   |lst ds=>
    have hdn:c9 ds<=n:=Nat.le_of_succ_le_succ (show c9 ds+1<=n+1 from hn);obtain⟨a,xs,rfl,q,l⟩:=hx;cases rx;obtain⟨its,rv,p,_⟩:=I.list q;cases e with
    |lst es=>
     obtain⟨b,ys,rfl,q',l'⟩:=hy;cases ry;obtain⟨its',rv',p',_⟩:=I.list q';have e1:its.toArray.size=ds.length:=by rw[size_toArray,<-rv.length,l.len]
     have e2:its'.toArray.size=es.length:=by rw[size_toArray,<-rv'.length,l'.len]
     by_cases hab:a=b
     ·subst hab;cases I.list_inj q q';cases IsL.inj I ds es xs od oe l l';rw[show eqD (.lst ds) (.lst ds)=true from ff ds od];exact SeqAt.EqAt.same _
     ·refine SeqAt.EqAt.of_refs hab ?_;by_cases hl:ds.length=es.length
      ·have h:=SeqAt.RcAt.lists (e:=λj=>eqD (ds.getD j .non) (es.getD j .non)) p.isList p'.isList (by rw[e1,e2,hl]) hu' λj h1 h2=>ez (λi d e x y u w e1 e2 i1 i2 r1 r2=>ih A.in1 d e x y u w (Nat.le_trans (j3 e1) hdn) (by rw[iI];omega) (gv od e1) (gv oe e2) i1 i2 r1 r2) l l' rv rv' j h1 h2;rw[e1,iK ds es hl]at h;exact h
      ·rw[show eqD (.lst ds) (.lst es)=false from nW hl];exact SeqAt.RcAt.lists_lengths p.isList p'.isList (by rw[e1,e2];simpa using hl) hu'
    |tup es=>
     obtain⟨b,ys,rfl,q',l'⟩:=hy;cases ry;obtain⟨its',rv',p',_⟩:=I.tuple q';exact SeqAt.EqAt.list_tuple p.isList p' hu'
    |non=>cases(show y=_ from hy);cases ry;exact SeqAt.EqAt.list_none p.isList hu'
    |bl c=>cases(show y=_ from hy);cases ry;exact SeqAt.EqAt.list_bool c p.isList hu'
    |int c=>cases(show y=_ from hy);obtain⟨t,rfl⟩:=ry;exact SeqAt.EqAt.list_int c t p.isList hu'
    |str c=>cases(show y=_ from hy);obtain⟨t,rfl⟩:=ry;exact SeqAt.EqAt.list_str c t p.isList hu'
    |ty _=>cases oe
    |adr _=>cases oe
    |obj _ _ _=>cases oe
    |dct _ _=>cases oe
   |ty _=>cases od
   |adr _=>cases od
   |obj _ _ _=>cases od
   |dct _ _=>cases od
   |_=>cases fd
def Do:D->D->Bool
 |.tup _,.tup _=>true
 |.lst _,.lst _=>true
 |_,_=>false
noncomputable def jw (d e:D):Option Bool:=if(aT d&&aT e&&ph (toV d) (toV e))=true then some (decide (toV d=toV e))else if(Do d e&&okE d&&okE e&&decide (dep d<=50))=true then some (eqD d e)else none
noncomputable def Dp (K:Frag) (neg:Bool):R2:=λx y H Q=>∃d e b,Is K H d x/\Is K H e y/\jw d e=some b/\Q (.bl (if neg then !b else b)) H
theorem cmpEq_cases (h:jw d e=some b):(aT d=true/\aT e=true/\ph (toV d) (toV e)=true/\b=decide (toV d=toV e))\/(Do d e=true/\okE d=true/\okE e=true/\dep d<=50/\b=eqD d e):=by
 unfold jw at h;split at h
 ·rename_i c;rw[and_eq_true,and_eq_true]at c;exact .inl ⟨c.1.1,c.1.2,c.2,(Option.some.inj h).symm⟩
 ·split at h
  ·rename_i _ c;rw[and_eq_true,and_eq_true,and_eq_true]at c;exact .inr ⟨c.1.1.1,c.1.1.2,c.1.2,of_decide_eq_true c.2,(Option.some.inj h).symm⟩
  ·cases h
theorem fQ (I:Inv X pins σ H s) (hu:X.A.units+60<cLine) (od:okL ds=true) (oe:okL es=true) (hd:c9 ds<=50):∀ (i:Nat) (d e:D) (x y:V) (u w:Value),ds[i]?=some d->es[i]?=some e->Is X.K H d x->Is X.K H e y->RelV x u->RelV y w->SeqAt.EqAt X.A.in1 s u w (eqD d e):=
 λi d e x y u w e1 e2 i1 i2 r1 r2=>wE I 50 X.A.in1 d e x y u w (Nat.le_trans (j3 e1) hd) (by rw[iI];omega) (gv od e1) (gv oe e2) i1 i2 r1 r2
theorem wF (hu:X.A.units+60<cLine):OpR X (compareOp .Eq) (Dp X.K false):=by
 intro pins s σ H x y v u Q I rx ry h;obtain⟨d,e,b,hx,hy,hb,q⟩:=h;have hu':X.A.units<cLine:=by omega
 rcases cmpEq_cases hb with⟨f1,f2,sc,rfl⟩|⟨sq,od,oe,hd,rfl⟩
 ·obtain⟨_,e1⟩:=iJ hx f1;obtain⟨_,e2⟩:=iJ hy f2;exact FE pins s σ H x y v u Q I rx ry ⟨by rw[e1,e2];exact sc,by rw[e1,e2];exact q⟩
 ·cases d with
  |tup ds=>
   cases e with
   |tup es=>
    obtain⟨a,xs,rfl,q1,l⟩:=hx;obtain⟨c,ys,rfl,q2,l'⟩:=hy;cases rx;cases ry;obtain⟨its,rv,p,_⟩:=I.tuple q1;obtain⟨its',rv',p',_⟩:=I.tuple q2;have hd':c9 ds<=50:=by have:c9 ds+1<=50:=hd;omega
    have e1:its.toArray.size=ds.length:=by rw[size_toArray,<-rv.length,l.len]
    have e2:its'.toArray.size=es.length:=by rw[size_toArray,<-rv'.length,l'.len]
    have hh:=SeqAt.RcAt.tuples (e:=λj=>eqD (ds.getD j .non) (es.getD j .non)) p p' hu' λj h1 h2=>ez (fQ I hu od oe hd') l l' rv rv' j h1 h2;rw[e1,e2,bn]at hh;exact hh X.prog X.w X.xe _ ⟨.bl _,H,I,rfl,q⟩
   |_=>cases sq
  |lst ds=>
   cases e with
   |lst es=>
    obtain⟨a,xs,rfl,q1,l⟩:=hx;obtain⟨c,ys,rfl,q2,l'⟩:=hy;cases rx;cases ry;obtain⟨its,rv,p,_⟩:=I.list q1;obtain⟨its',rv',p',_⟩:=I.list q2;have hd':c9 ds<=50:=by have:c9 ds+1<=50:=hd;omega
    have e1:its.toArray.size=ds.length:=by rw[size_toArray,<-rv.length,l.len]
    have e2:its'.toArray.size=es.length:=by rw[size_toArray,<-rv'.length,l'.len]
    by_cases hl:ds.length=es.length
    ·have hh:=SeqAt.RcAt.lists (e:=λj=>eqD (ds.getD j .non) (es.getD j .non)) p.isList p'.isList (by rw[e1,e2,hl]) hu' λj h1 h2=>ez (fQ I hu od oe hd') l l' rv rv' j h1 h2;rw[e1,iK ds es hl]at hh;exact hh X.prog X.w X.xe _ ⟨.bl _,H,I,rfl,q⟩
    ·have hh:SeqAt.RcAt X.A s (.ref a) (.ref c) false:=SeqAt.RcAt.lists_lengths p.isList p'.isList (by rw[e1,e2];simpa using hl) hu';rw[show eqD (.lst ds) (.lst es)=false from nW hl]at q;exact hh X.prog X.w X.xe _ ⟨.bl _,H,I,rfl,q⟩
   |_=>cases sq
  |_=>cases sq
theorem wG (hu:X.A.units+60<cLine):OpR X (compareOp .NotEq) (Dp X.K true):=by
 intro pins s σ H x y v u Q I rx ry h;obtain⟨d,e,b,hx,hy,hb,q⟩:=h;have hu':X.A.units<cLine:=by omega
 rcases cmpEq_cases hb with⟨f1,f2,sc,rfl⟩|⟨sq,od,oe,hd,rfl⟩
 ·obtain⟨_,e1⟩:=iJ hx f1;obtain⟨_,e2⟩:=iJ hy f2;exact FG pins s σ H x y v u Q I rx ry ⟨by rw[e1,e2];exact sc,by rw[e1,e2];exact q⟩
 ·cases d with
  |tup ds=>
   cases e with
   |tup es=>
    obtain⟨a,xs,rfl,q1,l⟩:=hx;obtain⟨c,ys,rfl,q2,l'⟩:=hy;cases rx;cases ry;obtain⟨its,rv,p,_⟩:=I.tuple q1;obtain⟨its',rv',p',_⟩:=I.tuple q2;have hd':c9 ds<=50:=by have:c9 ds+1<=50:=hd;omega
    have e1:its.toArray.size=ds.length:=by rw[size_toArray,<-rv.length,l.len]
    have e2:its'.toArray.size=es.length:=by rw[size_toArray,<-rv'.length,l'.len]
    have hh:=SeqAt.RcNeAt.tuples (e:=λj=>eqD (ds.getD j .non) (es.getD j .non)) p p' hu' λj h1 h2=>ez (fQ I hu od oe hd') l l' rv rv' j h1 h2;rw[e1,e2,bn]at hh;exact hh X.prog X.w X.xe _ ⟨.bl _,H,I,rfl,q⟩
   |_=>cases sq
  |lst ds=>
   cases e with
   |lst es=>
    obtain⟨a,xs,rfl,q1,l⟩:=hx;obtain⟨c,ys,rfl,q2,l'⟩:=hy;cases rx;cases ry;obtain⟨its,rv,p,_⟩:=I.list q1;obtain⟨its',rv',p',_⟩:=I.list q2;have hd':c9 ds<=50:=by have:c9 ds+1<=50:=hd;omega
    have e1:its.toArray.size=ds.length:=by rw[size_toArray,<-rv.length,l.len]
    have e2:its'.toArray.size=es.length:=by rw[size_toArray,<-rv'.length,l'.len]
    by_cases hl:ds.length=es.length
    ·have hh:=SeqAt.RcNeAt.lists (e:=λj=>eqD (ds.getD j .non) (es.getD j .non)) p.isList p'.isList (by rw[e1,e2,hl]) hu' λj h1 h2=>ez (fQ I hu od oe hd') l l' rv rv' j h1 h2;rw[e1,iK ds es hl]at hh;exact hh X.prog X.w X.xe _ ⟨.bl _,H,I,rfl,q⟩
    ·have hh:SeqAt.RcNeAt X.A s (.ref a) (.ref c) true:=SeqAt.RcNeAt.lists_lengths p.isList p'.isList (by rw[e1,e2];simpa using hl) hu';rw[show eqD (.lst ds) (.lst es)=false from nW hl]at q;exact hh X.prog X.w X.xe _ ⟨.bl _,H,I,rfl,q⟩
   |_=>cases sq
  |_=>cases sq
end
def aN (neg:Bool) (d e:D):Option D:=(jw d e).bind λb=>some (.bl (if neg then !b else b))
theorem tE {K}:R2D K (Dp K neg) (aN neg):=λO H x y dx dy d Q hd ix iy e k=>by
 obtain⟨b,e1,e2⟩:=bind_some e;cases e2;exact⟨dx,dy,b,ix.full,iy.full,e1,k _ H (Same.refl _) rfl⟩
section
variable {X:Cx} {pos:Pos} {a b e:Expr}
theorem room60 (r:Room k A):A.units+60<cLine:=by have:=r.un;omega
theorem Gk (r:Room k X.A) (ha:PP X a fa) (hb:PP X b fb):PP X (.Compare a [.Eq] [b] pos) (aa (aN false) fa fb):=pp_cmp (wF (room60 r)) tE ha hb (cP _)
theorem Gm (r:Room k X.A) (ha:PP X a fa) (hb:PP X b fb):PP X (.Compare a [.NotEq] [b] pos) (aa (aN true) fa fb):=pp_cmp (wG (room60 r)) tE ha hb (cP _)
theorem Gn (r:Room k X.A) (ha:PP X a fa) (hb:PP X b fb):PQ X (.Compare a [.Eq] [b] pos) (au (aa (aN false) fa fb)):=pq_cmp (wF (room60 r)) tE ha hb (cP _)
theorem Go (r:Room k X.A) (ha:PP X a fa) (hb:PP X b fb):PQ X (.Compare a [.NotEq] [b] pos) (au (aa (aN true) fa fb)):=pq_cmp (wG (room60 r)) tE ha hb (cP _)
structure Cn (K:Frag) (mg:Str->Option Value) (x:Str) (d:D):Prop where
 ex:∃v u,mg x=some u/\RelV v u/\∀H,Is K H d v
theorem wH (c:Cn X.K X.mg x d) (hg:Gl X x) (hd:(x==("__debug__":Str))=false:=by decide):PP X (.Name x pos) (λ_=>some d):=by
 obtain⟨v,u,h1,h2,h3⟩:=c.ex;exact Ag hg h1 h2 h3 hd
end
noncomputable def ItK:Bool->Heap->Addr->Addr->Nat->Prop
 |true,h,it,l,k=>h.IsListIter it l k
 |false,h,it,l,k=>h.IsTupleIter it l k
noncomputable def CoK:Bool->Heap->Addr->Array Value->Prop
 |true,h,l,its=>h.IsList l its
 |false,h,l,its=>h.IsTuple l its
theorem ItK.at (x:ItK b h it l k) (e:∀o,h.get? it=some o->h'.get? it=some o):ItK b h' it l k:=by
 cases b
 ·exact Heap.IsTupleIter.at x e
 ·exact Heap.IsListIter.at x e
theorem ItK.live (x:ItK b h it l k):∃o n vs,h.get? it=some o/\o.cls=.type n/\o.data=.fields vs/\(n="list_iterator"\/n="tuple_iterator"):=by
 cases b
 ·obtain⟨o,e,c,d⟩:=x;exact⟨o,_,_,e,c,d,.inr rfl⟩
 ·obtain⟨o,e,c,d⟩:=x;exact⟨o,_,_,e,c,d,.inl rfl⟩
section
variable {prog:Program} {w:World} {A:Around} {E:Value->Shared->Prop} {s:Shared}
theorem wI (hit:s.heap.IsTupleIter it t i) (ht:s.heap.IsTuple t its) (hx:its[i]?=some x) (hQ:∀h',h'.IsTupleIter it t (i+1)->Heap.SameBut it s.heap h'->Q x {s with heap:=h'}):wpAny (model prog w) A (Builtin.SmallTypes.nextOf (.ref it)) Q E s:=by
 obtain⟨o,ho,hc,hd⟩:=id hit;obtain⟨ol,hol,_,nl,hdl⟩:=ht;have go:wpAny (model prog w) A.in1 (Builtin.«tuple_iterator.__next__» ⟨[.ref it],[]⟩) (λfin s'=>∃v,fin=.done (.ret v)/\wpAny (model prog w) A (pure v) Q E s') E s:=by
  show wpAny _ _ (field (.ref it) 0>>=_) _ _ s;refine wpAny_bind (wpAny_field ho hd (x:=.ref t) rfl ?_);show wpAny _ _ (if(Value.ref t==Value.none)=true then _ else _) _ _ s;rw[if_neg (show¬ ((Value.ref t==Value.none)=true)from Bool.false_ne_true)];show wpAny _ _ (field (.ref it) 1>>=_) _ _ s;refine wpAny_bind (wpAny_field ho hd (x:=.int i 0) rfl ?_);show wpAny _ _ (seqItems? (.ref t)>>=_) _ _ s;refine wpAny_bind (wpAny_seqItems hol hdl ?_);simp only[Int.toNat_natCast,hx];refine wpAny_bind (wpAny_setField ho hd (by simp) (wpAny_pure ⟨x,rfl,wpAny_pure (hQ _ ⟨_,Heap.get?_update_self _ ho (Obj.isFreed_of_fields (Obj.data_mapFields hd _)),(Obj.cls_mapFields ..).trans hc,?_⟩ (Heap.SameBut.update ..))⟩));rw[Obj.data_mapFields hd];simp[rawInt]
 unfold Builtin.SmallTypes.nextOf;exact wpAny_bind (wpAny_callSpecial?_slot (name:=Str.ofString "__next__") hit.typeIs F.slot_tuple_iterator_next (wpAny_call_entry F.slot_tuple_iterator_next hit.typeIs F.entry_tuple_iterator_next go (F.args_tuple_iterator_next_1 _)))
theorem nX (hh:A.handled=none) (hit:s.heap.IsTupleIter it t i) (ht:s.heap.IsTuple t its) (hx:its[i]?=none) (hE:∀h' e,Heap.ExtBut it s.heap h'->(∃o,h'.get? e=some o/\o.cls=.type "StopIteration")->E (.ref e) {s with heap:=h'}):wpAny (model prog w) A (Builtin.SmallTypes.nextOf (.ref it)) Q E s:=by
 obtain⟨o,ho,hc,hd⟩:=id hit;obtain⟨ol,hol,_,nl,hdl⟩:=ht;unfold Builtin.SmallTypes.nextOf;refine wpAny_bind (wpAny_callSpecial?_slot (name:=Str.ofString "__next__") hit.typeIs F.slot_tuple_iterator_next (wpAny_call_entry F.slot_tuple_iterator_next hit.typeIs F.entry_tuple_iterator_next ?_ (F.args_tuple_iterator_next_1 _)));show wpAny _ _ (field (.ref it) 0>>=_) _ _ s;refine wpAny_bind (wpAny_field ho hd (x:=.ref t) rfl ?_);show wpAny _ _ (if(Value.ref t==Value.none)=true then _ else _) _ _ s;rw[if_neg (show¬ ((Value.ref t==Value.none)=true)from Bool.false_ne_true)];show wpAny _ _ (field (.ref it) 1>>=_) _ _ s;refine wpAny_bind (wpAny_field ho hd (x:=.int i 0) rfl ?_);show wpAny _ _ (seqItems? (.ref t)>>=_) _ _ s;refine wpAny_bind (wpAny_seqItems hol hdl ?_);simp only[Int.toNat_natCast,hx];refine wpAny_bind (wpAny_rule (wpAny_bind (wpAny_setField ho hd (by simp) ?_)));show wpAny _ _ (newExc (.type "StopIteration") []>>=_) _ _ _;refine wpAny_bind ?_;simp only[newExc,newTuple];refine wpAny_bind (wpAny_newObj_type ?_ (by size_fits));refine wpAny_bind (m:=firstArgMember _ _) (wpAny_of_eq (a:=Value.none) (by first|rfl|(simp only[firstArgMember];rfl)) ?_);refine wpAny_newObj_type ?_ (by size_fits);simp only[raiseNew];refine wpAny_bind (wpAny_handled ?_);first|rw[show A.in1.handled=none from hh]|rw[hh]
 refine wpAny_bind (wpAny_pure (wpAny_throw ?_));exact hE _ _ (((Heap.SameBut.update ..).extBut.push _).push _) ⟨_,Heap.get?_push_size _ rfl,rfl⟩
theorem Gp (hit:ItK b s.heap it l i) (ht:CoK b s.heap l its) (hx:its[i]?=some x) (hQ:∀h',ItK b h' it l (i+1)->Heap.SameBut it s.heap h'->Q x {s with heap:=h'}):wpAny (model prog w) A (Builtin.SmallTypes.nextOf (.ref it)) Q E s:=by
 cases b
 ·exact wI hit ht hx hQ
 ·exact wpAny_nextOf_list_item hit ht hx hQ
theorem uX (hh:A.handled=none) (hit:ItK b s.heap it l i) (ht:CoK b s.heap l its) (hx:its[i]?=none) (hE:∀h' e,Heap.ExtBut it s.heap h'->(∃o,h'.get? e=some o/\o.cls=.type "StopIteration")->E (.ref e) {s with heap:=h'}):wpAny (model prog w) A (Builtin.SmallTypes.nextOf (.ref it)) Q E s:=by
 cases b
 ·exact nX hh hit ht hx hE
 ·exact wpAny_nextOf_list_end hh hit ht hx hE
structure ZA (z TI TO i1 i2:Addr):Prop where
 TIz:TI≠z
 TOz:TO≠z
 i1z:i1≠z
 i2z:i2≠z
 TITO:TI≠TO
 TIi1:TI≠i1
 TIi2:TI≠i2
 TOi1:TO≠i1
 TOi2:TO≠i2
 i12:i1≠i2
structure ZL (z TO i1 i2 l:Addr):Prop where
 z:l≠z
 TO:l≠TO
 i1:l≠i1
 i2:l≠i2
structure ZSt (b c:Bool) (z TI TO i1 i2 l1 l2:Addr) (f0:Value) (k:Nat) (h:Heap):Prop where
 ap:ZA z TI TO i1 i2
 hz:IsZip h z TI TO f0
 hI:IsPair h TI (.ref i1) (.ref i2)
 hO:∃a d,IsPair h TO a d
 h1:ItK b h i1 l1 k
 h2:ItK c h i2 l2 k
theorem ItK.ext (x:ItK b h it l k) (e:Heap.SameBut c h h') (hc:it≠c):ItK b h' it l k:=x.at λo q=>e.extBut _ _ hc q
end
section
variable {prog:Program} {w:World} {A:Around} {E:Value->Shared->Prop} {s:Shared}
noncomputable def kQ:Bool->Addr->Obj
 |true,l=>{cls:=.type "list_iterator",data:=.fields #[.ref l,.int 0 0]}
 |false,l=>{cls:=.type "tuple_iterator",data:=.fields #[.ref l,.int 0 0]}
theorem wJ (h:CoK b s.heap l its) (hQ:Q (.ref s.heap.objs.size) {s with heap:=s.heap.push (kQ b l)}):wpAny (model prog w) A (pyIter (.ref l)) Q E s:=by
 cases b
 ·exact wpAny_pyIter_tuple h hQ
 ·exact wpAny_pyIter_list h hQ
end
section
variable {X:Cx} {pins:List (Addr×Obj)} {σ:List (Option V)} {H:Hp} {s:Shared} {h':Heap}
theorem kR {ch:List Addr} (I:Inv X pins σ H s) (hf:∀b∈ch,H b=none) (k:∀b o,b ∉ ch->s.heap.get? b=some o->h'.get? b=some o):HOk X.prog X.w H h':=λb u e=>by
 have nit:∀b u,H b=some u->b ∉ ch:=λb u e z=>by rw[hf b z]at e;cases e
 refine(I.hok b u e).stay (λc v hc q=>k c v ?_ q) (λ_ q=>q) λ_ _ q=>q;rcases hc with z|z
 ·rw[z];exact nit b u e
 ·exact nit c _ z
theorem B4 {ch:List Addr} (hf:∀b∈ch,gq X pins H b):∀b∈ch,(b∈X.ex\/X.s₀.heap.objs.size<=b)/\b≠X.env.locals/\(∀x c,X.env.cells.lookup x=some c->c≠b)/\∀p∈X.pn++pins,p.1≠b:=λb hb=>by
 obtain⟨f0,f1,f2,f3,f4,f5⟩:=hf b hb;exact⟨f3,f1,f4,f5⟩
theorem Inv.turnedL {ch:List Addr} (I:Inv X pins σ H s) (hf:∀b∈ch,gq X pins H b) (k:∀b o,b ∉ ch->s.heap.get? b=some o->h'.get? b=some o):Inv X pins σ H {s with heap:=h',toks:=t'}:=by
 refine I.step (g':=s.gens) (d':=s.drawn) (ch:=ch) (B4 hf) (λb o _ _ hc e _=>k b o hc e) (λb o _ _ hc e _=>⟨o.slots,k b o hc e⟩) (λ_ _ _ _ n=>n)
  (λb o hc e=>⟨o,k b o hc e⟩) (λ_ _ e=>e) (λ_ _ _ e=>e) (λb ps e=>⟨#[],by rw[e];simp⟩) (λm hm=>?_) (kR I (λb hb=>(hf b hb).1) k) I.bare
 obtain⟨o,es,ep,ho,r⟩:=hm;exact⟨o,es,ep,k _ o (λz=>(hf _ z).2.1 rfl) ho,r⟩
theorem Inv.turnedNew {ch:List Addr} {p:Addr} (I:Inv X pins σ H s) (hf:∀b∈ch,gq X pins H b) (k:∀b o,b ∉ ch->s.heap.get? b=some o->h'.get? b=some o) (hp:s.heap.objs.size<=p) (new:ObjOk X.prog X.w (upd H p o) h' p o):Inv X pins σ (upd H p o) {s with heap:=h',toks:=t'}:=by
 have hn:H p=none:=I.hok.fresh hp;have lt:∀b o,s.heap.get? b=some o->b≠p:=λb o e=>Nat.ne_of_lt (lt_of_lt_of_le (Heap.lt_size e) hp);have keep:∀b u,H b=some u->upd H p o b=some u:=λb u e=>by rw[ag (ak e hn)];exact e
 refine I.step (g':=s.gens) (d':=s.drawn) (ch:=ch) (B4 hf) (λb o _ _ hc e _=>k b o hc e) (λb o _ _ hc e _=>⟨o.slots,k b o hc e⟩) (λb o _ e n=>by rw[ag (lt b o e)];exact n)
  (λb o hc e=>⟨o,k b o hc e⟩) (λb xs e=>keep b _ e) (λb o u e=>keep b _ e) (λb ps e=>⟨#[],by rw[keep b _ e];simp⟩) (λm hm=>?_) ((kR I (λb hb=>(hf b hb).1) k).adopt hn new) I.bare
 obtain⟨o,es,ep,ho,r⟩:=hm;exact⟨o,es,ep,k _ o (λz=>(hf _ z).2.1 rfl) ho,r⟩
noncomputable def SqK (b:Bool) (K:Frag) (H:Hp) (a:Addr) (xs:List V):Prop:=if b=true then SqL K H a xs else SqT K H a xs
theorem Inv.coK (I:Inv X pins σ H s) (h:SqK b X.K H a xs):∃its:List Value,Vals xs its/\CoK b s.heap a its.toArray/\xs.length<=sizeLine:=by
 cases b
 ·obtain⟨its,r,t,z⟩:=I.tuple (show SqT X.K H a xs from h);exact⟨its,r,t,z⟩
 ·obtain⟨its,r,t,z⟩:=I.list (show SqL X.K H a xs from h);exact⟨its,r,t.isList,z⟩
theorem Inv.coK_inj (I:Inv X pins σ H s) (h:SqK b X.K H a xs) (h':SqK b X.K H a ys):xs=ys:=by
 cases b
 ·exact I.tuple_inj h h'
 ·exact I.list_inj h h'
end
section
variable {X:Cx} {tg a b e:Expr} {es:List Expr} {p pos:Pos}
theorem SqK.mono {b} {K} (s:Same H H') (h:SqK b K H l xs):SqK b K H' l xs:=by
 cases b
 ·exact s.seqT h
 ·exact s.seq h
theorem Dq {K} (h:SqL K H l xs\/SqT K H l xs):∃b,SqK b K H l xs:=by
 rcases h with h|h
 ·exact⟨true,h⟩
 ·exact⟨false,h⟩
def wK:D->Option D
 |.int i=>some (.int (-i))
 |_=>none
theorem Dr (ha:PP X a fa):PP X (.UnaryOp .USub a pos) (λY=>(fa Y).bind wK):=λO Y=>(FC CT (ha O Y)).imp λσ H Q ⟨E,d,q,k⟩=>by
 obtain⟨c,e1,e2⟩:=bind_some q;refine⟨E,c,e1,λv H1 s1 i1=>?_⟩;cases c with
 |int i=>cases e2;exact⟨i,i1,k _ H1 s1 rfl⟩
 |_=>cases e2
theorem b_max:bootBuiltins "max"=some (.builtin "max"):=by decide+kernel
theorem b_min:bootBuiltins "min"=some (.builtin "min"):=by decide+kernel
noncomputable def gw:List D->Option D:=un2 λc d=>(intD c).bind λi=>(intD d).bind λj=>some (.int (if j>i then j else i))
noncomputable def re:List D->Option D:=un2 λc d=>(intD c).bind λi=>(intD d).bind λj=>some (.int (if j<i then j else i))
theorem rn_max:RnD X.K (λxs H Q=>∃i j,xs=[.int i,.int j]/\Q (.int (if j>i then j else i)) H) gw:=λO H xs ds d Q hd l e k=>by
 obtain⟨c,c',rfl,e⟩:=kL e;obtain⟨i,e1,e⟩:=bind_some e;obtain⟨j,e2,e⟩:=bind_some e;cases e;obtain⟨u,v,rfl,iu,iv⟩:=is2 l;cases intD_some e1;cases intD_some e2;exact⟨i,j,by rw[show u=.int i from iu,show v=.int j from iv],k _ H (Same.refl _) rfl⟩
theorem rn_min:RnD X.K (λxs H Q=>∃i j,xs=[.int i,.int j]/\Q (.int (if j<i then j else i)) H) re:=λO H xs ds d Q hd l e k=>by
 obtain⟨c,c',rfl,e⟩:=kL e;obtain⟨i,e1,e⟩:=bind_some e;obtain⟨j,e2,e⟩:=bind_some e;cases e;obtain⟨u,v,rfl,iu,iv⟩:=is2 l;cases intD_some e1;cases intD_some e2;exact⟨i,j,by rw[show u=.int i from iu,show v=.int j from iv],k _ H (Same.refl _) rfl⟩
def Ds:D->Bool
 |.non=>true
 |_=>false
theorem At {K} (h:Is K H d v):decide (v=.non)=Ds d:=by
 cases d with
 |non=>cases(show v=_ from h);rfl
 |bl _=>cases(show v=_ from h);rfl
 |int _=>cases(show v=_ from h);rfl
 |str _=>cases(show v=_ from h);rfl
 |ty _=>cases(show v=_ from h);rfl
 |adr _=>cases(show v=_ from h);rfl
 |tup _=>obtain⟨a,xs,rfl,_⟩:=h;rfl
 |lst _=>obtain⟨a,xs,rfl,_⟩:=h;rfl
 |obj _ _ _=>obtain⟨a,Ca,dx,fs,rfl,_⟩:=h;rfl
 |dct _ _=>obtain⟨a,kvs,rfl,_⟩:=h;rfl
def wL (neg:Bool):D->D->Option D
 |d,.non=>some (.bl (if neg then !Ds d else Ds d))
 |_,_=>none
theorem r_notN {K}:R2D K (λx y H Q=>y=.non/\Q (.bl (!decide (x=.non))) H) (wL true):=λO H x y dx dy d Q _ ix iy e k=>by
 cases dy with
 |non=>cases e;exact⟨iy,k _ H (Same.refl _) (by rw[At ix];rfl)⟩
 |_=>cases e
noncomputable def mm (ds:List D) (lo hi:Option Int):List D:=(ds.drop (HT.sIx ds.length 0 lo)).take (HT.sIx ds.length ds.length hi-HT.sIx ds.length 0 lo)
theorem wM {K} (l:IsL K H ds xs) (lo hi:Option Int):IsL K H (mm ds lo hi) (pv xs lo hi):=by
 unfold mm pv;rw[<-l.len];exact .of (js _ (jt _ l.paired))
theorem Au:SlR X (λx lo hi H Q=>∃a xs,x=.ref a/\SqT X.K H a xs/\(HT.sIx xs.length 0 lo=0/\HT.sIx xs.length xs.length hi=xs.length)/\Q (.ref a) H):=by
 intro pins s σ H x v vl vu lo hi sl Q I rx hs pl pu h;obtain⟨a,xs,rfl,hx,hw,q⟩:=h;cases rx;obtain⟨its,r,ht,hz⟩:=I.tuple hx;have hlen:its.toArray.size=xs.length:=by rw[size_toArray];exact r.length.symm
 refine⟨"tuple",_,PyProof.Rows.slot_tuple_getitem.lookup,ht.typeIs,?_⟩;obtain⟨os,hos,hcs,hds⟩:=id hs;have hTs:s.TypeIs (.ref sl) "slice":=⟨os,hos,hcs⟩;unfold getItem;try with_reducible refine wpAny_holding ?_
 first|refine wpAny_bind (wpAny_pure ?_)|skip
 refine wpAny_bind (wpAny_sequenceKey ht.typeIs (by decide) ?_);refine wpAny_bind (wpAny_callSpecial?_slot (name:=Str.ofString "__getitem__") ht.typeIs PyProof.Rows.slot_tuple_getitem (wpAny_call_entry PyProof.Rows.slot_tuple_getitem ht.typeIs entry_tuple_getitem ?_ (args_tuple_getitem _ _)));show wpAny _ _ (Builtin.Tuple.tupleItemsOf (.ref a)>>=_) _ _ s;refine wpAny_bind (tupleItemsOf_ ht (wpAny_bind (wpAny_typeOf hTs ?_)));rw[if_pos (by decide)];refine wpAny_bind (HT.sliceApplied_gen hs pl pu ?_);have hyes:(((HT.sIx its.toArray.size 0 lo:Nat):Int)==0&&(1:Int)==1&&(HT.sIx its.toArray.size its.toArray.size hi-HT.sIx its.toArray.size 0 lo)==its.toArray.size)=true:=by
  rw[hlen,hw.1,hw.2];simp
 show wpAny _ _ (if(((HT.sIx its.toArray.size 0 lo:Nat):Int)==0&&(1:Int)==1&&(HT.sIx its.toArray.size its.toArray.size hi-HT.sIx its.toArray.size 0 lo)==its.toArray.size)=true then _ else _) _ _ s;rw[if_pos hyes];unfold Builtin.Tuple.tupleIsExact;refine wpAny_bind (wpAny_bind (wpAny_typeOf ht.typeIs (wpAny_pure ?_)));simp only[beq_self_eq_true,if_true];exact wpAny_bind (wpAny_rule (wpAny_pure ⟨_,rfl,wpAny_pure ⟨.ref a,H,I,rfl,q⟩⟩))
noncomputable def PPo (X:Cx) (e:Option Expr) (f:Vv->Option (Option Int)):Prop:=∀O Y,PO X e (λσ H Q=>VE X.K O σ H Y/\∃i,f Y=some i/\∀H',Same H H'->Q i H')
theorem PO.imp {e} (h:PO X e t) (k:∀σ H Q,t' σ H Q->t σ H Q):PO X e t':=λpins s σ H Q I q=>h pins s σ H Q I (k _ _ _ q)
theorem wN:PPo X none (λ_=>some none):=λO Y=>po_none.imp λσ H Q ⟨E,i,q,k⟩=>by
 cases q;exact k H (Same.refl _)
def cZ (f:Vv->Option D):Vv->Option (Option Int):=λY=>(f Y).bind λd=>(intD d).bind λi=>some (some i)
theorem wO (h:PP X e f):PPo X (some e) (cZ f):=λO Y=>(z0 (h O Y)).imp λσ H Q ⟨E,i,q,k⟩=>by
 obtain⟨d,q1,q2⟩:=bind_some q;obtain⟨j,q3,q4⟩:=bind_some q2;cases q4;refine⟨E,d,q1,λv H1 s1 iv=>?_⟩;cases intD_some q3;exact⟨j,iv,k H1 s1⟩
noncomputable def uY (f:Vv->Option D) (fl fh:Vv->Option (Option Int)):Vv->Option D:=λY=>(f Y).bind λd=>(fl Y).bind λlo=>(fh Y).bind λhi=>match d with
 |.tup ds=>some (.tup (mm ds lo hi))
 |_=>none
noncomputable def nY (f:Vv->Option D) (fl fh:Vv->Option (Option Int)):Vv->Option (List D):=λY=>(f Y).bind λd=>(fl Y).bind λlo=>(fh Y).bind λhi=>match d with
 |.lst ds=>some (mm ds lo hi)
 |_=>none
theorem uZ {lo hi} (h:HT.sIx ds.length 0 lo=0/\HT.sIx ds.length ds.length hi=ds.length):mm ds lo hi=ds:=by
 unfold mm;rw[h.1,h.2];simp
theorem Dt {lo hi} (h:PP X e f) (hl:PPo X lo fl) (hh:PPo X hi fh):PP X (.Subscript e (.Slice lo hi none p2) pos) (uY f fl fh):=λO Y=>
 (pj (sl_tup.or Au) (h O Y) (hl O Y) (hh O Y)).imp λσ H Q ⟨E,d,q,k⟩=>by
 obtain⟨c,q1,q⟩:=bind_some q;obtain⟨l,q2,q⟩:=bind_some q;obtain⟨u,q3,q⟩:=bind_some q;refine⟨E,c,q1,λv H1 s1 iv=>⟨E.grow s1,l,q2,λH2 s2=>⟨E.grow (s1.trans s2),u,q3,λH3 s3=>?_⟩⟩⟩;cases c with
 |tup ds=>
  cases q;have iv':=Is.mono (s2.trans s3).msk _ _ iv;obtain⟨a,xs,rfl,t,il⟩:=iv';have s13:=s1.trans (s2.trans s3);by_cases hw:HT.sIx xs.length 0 l=0/\HT.sIx xs.length xs.length u=xs.length
  ·refine .inr ⟨a,xs,rfl,msk_le.seqT t,hw,k _ H3 s13 ?_⟩;rw[uZ (by rw[il.len];exact hw)];exact⟨a,xs,rfl,t,il⟩
  ·refine .inl ⟨a,xs,rfl,msk_le.seqT t,hw,λp hp=>?_⟩;have hO:=(E.grow s13).fresh hp;exact k _ _ (s13.trans (Same.new hp)) ⟨p,_,rfl,.of (by rw[aG hO,ah]),IsL.mono (Same.new hp).msk _ _ (wM il l u)⟩
 |_=>cases q
theorem wP {lo hi} (h:PP X e f) (hl:PPo X lo fl) (hh:PPo X hi fh):PF X (.Subscript e (.Slice lo hi none p2) pos) (nY f fl fh):=λO Y=>
 (pj z6 (h O Y) (hl O Y) (hh O Y)).imp λσ H Q ⟨E,d,q,k⟩=>by
 obtain⟨c,q1,q⟩:=bind_some q;obtain⟨l,q2,q⟩:=bind_some q;obtain⟨u,q3,q⟩:=bind_some q;refine⟨E,c,q1,λv H1 s1 iv=>⟨E.grow s1,l,q2,λH2 s2=>⟨E.grow (s1.trans s2),u,q3,λH3 s3=>?_⟩⟩⟩;cases c with
 |lst ds=>
  cases q;have iv':=Is.mono (s2.trans s3).msk _ _ iv;obtain⟨a,xs,rfl,t,il⟩:=iv';exact⟨a,xs,rfl,msk_le.seq t,λp hp=>k p _ H3 (s1.trans (s2.trans s3)) hp (wM il l u)⟩
 |_=>cases q
end
inductive Cat where
 |sh
 |top
 |deep
 deriving DecidableEq
mutual
noncomputable def lfD:D->Bool
 |.tup ds=>lfL ds
 |.lst _=>false
 |.obj _ _ _=>false
 |.dct _ _=>false
 |_=>true
noncomputable def lfL:List D->Bool
 |[]=>true
 |d::ds=>lfD d&&lfL ds
end
mutual
noncomputable def Deep (K:Frag) (M H:Hp):D->V->List Addr->Prop
 |.non,v,A=>v=.non/\A=[]
 |.bl b,v,A=>v=.bl b/\A=[]
 |.int i,v,A=>v=.int i/\A=[]
 |.str x,v,A=>v=.str x/\A=[]
 |.ty n,v,A=>v=.ty n/\A=[]
 |.adr a,v,A=>v=.ref a/\A=[]
 |.tup ds,v,A=>∃a xs,v=.ref a/\(M a=some (.tup xs)\/(lfL ds=true/\SqT K M a xs))/\DeepL K M H ds xs A
 |.lst ds,v,A=>∃a xs A',v=.ref a/\H a=some (.lst xs)/\A=a::A'/\DeepL K M H ds xs A'
 |.obj _ _ _,_,_=>False
 |.dct ks ds,v,A=>∃a kvs A',v=.ref a/\H a=some (.dK kvs)/\kvs.map (·.1)=ks/\A=a::A'/\DeepL K M H ds (kvs.map (·.2)) A'
noncomputable def DeepL (K:Frag) (M H:Hp):List D->List V->List Addr->Prop
 |[],xs,A=>xs=[]/\A=[]
 |d::ds,xs,A=>∃x r A1 A2,xs=x::r/\A=A1++A2/\Deep K M H d x A1/\DeepL K M H ds r A2
end
def NL (M M':Hp):Prop:=∀b o,M b=some o->¬Hid (some o)->M' b=some o
theorem NL.of (s:Same M M'):NL M M':=λb o h _=>s b o h
theorem NL.trans (s:NL M M') (t:NL M' M''):NL M M'':=λb o h q=>t b o (s b o h q) q
theorem tF:¬Hid (some (.tup xs)):=by rintro(⟨_,z⟩|⟨_,_,_,z⟩|⟨_,z⟩)<;>cases z
theorem Av:¬Hid (some (.frz o u)):=by rintro(⟨_,z⟩|⟨_,_,_,z⟩|⟨_,z⟩)<;>cases z
theorem NL.seqT {K} (e:NL H H') (h:SqT K H a xs):SqT K H' a xs:=by
 rcases h with(h|⟨o,h⟩)|h
 ·exact .inl (.inl (e _ _ h tF))
 ·exact .inl (.inr ⟨o,e _ _ h Av⟩)
 ·exact .inr h
theorem tupAt {K} (s:NL M M') (h:M a=some (.tup xs)\/(lfL ds=true/\SqT K M a xs)):M' a=some (.tup xs)\/(lfL ds=true/\SqT K M' a xs):=by
 rcases h with h|⟨f,h⟩
 ·exact .inl (s _ _ h tF)
 ·exact .inr ⟨f,s.seqT h⟩
theorem Gq {K} (s:NL M M') (h:M a=some (.tup xs)\/(lfL ds=true/\SqT K M a xs)):SqT K M' a xs:=by
 rcases tupAt s h with h|⟨_,h⟩
 ·exact .of h
 ·exact h
mutual
theorem Deep.frame {K:Frag} {M M' H H':Hp} (s:NL M M'):∀ (d:D) (v:V) (A:List Addr),(∀a∈A,∀o,H a=some o->H' a=some o)->Deep K M H d v A->Deep K M' H' d v A
 |.non,_,_,_,h=>h
 |.bl _,_,_,_,h=>h
 |.int _,_,_,_,h=>h
 |.str _,_,_,_,h=>h
 |.ty _,_,_,_,h=>h
 |.adr _,_,_,_,h=>h
 |.tup ds,_,A,k,⟨a,xs,e,q,l⟩=>⟨a,xs,e,tupAt s q,DeepL.frame s ds xs A k l⟩
 |.lst ds,_,A,k,⟨a,xs,A',e,q,z,l⟩=>⟨a,xs,A',e,k a (by rw[z];exact mem_cons_self) _ q,z,DeepL.frame s ds xs A' (λb hb=>k b (by rw[z];exact mem_cons_of_mem _ hb)) l⟩
 |.obj _ _ _,_,_,_,h=>h.elim
 |.dct ks ds,_,A,k,⟨a,kvs,A',e,q,y,z,l⟩=>⟨a,kvs,A',e,k a (by rw[z];exact mem_cons_self) _ q,y,z,DeepL.frame s ds _ A' (λb hb=>k b (by rw[z];exact mem_cons_of_mem _ hb)) l⟩
theorem DeepL.frame {K:Frag} {M M' H H':Hp} (s:NL M M'):∀ (ds:List D) (xs:List V) (A:List Addr),(∀a∈A,∀o,H a=some o->H' a=some o)->DeepL K M H ds xs A->DeepL K M' H' ds xs A
 |[],_,_,_,h=>h
 |d::ds,_,A,k,⟨x,r,A1,A2,e,z,h,l⟩=>⟨x,r,A1,A2,e,z,Deep.frame s d x A1 (λb hb=>k b (by rw[z];exact mem_append_left _ hb)) h,DeepL.frame s ds r A2 (λb hb=>k b (by rw[z];exact mem_append_right _ hb)) l⟩
end
mutual
theorem Deep.is {K:Frag} {M M' H:Hp} (s:NL M M'):∀ (d:D) (v:V) (A:List Addr),(∀a∈A,∀o,H a=some o->M' a=some o)->Deep K M H d v A->Is K M' d v
 |.non,_,_,_,h=>h.1
 |.bl _,_,_,_,h=>h.1
 |.int _,_,_,_,h=>h.1
 |.str _,_,_,_,h=>h.1
 |.ty _,_,_,_,h=>h.1
 |.adr _,_,_,_,h=>h.1
 |.tup ds,_,A,k,⟨a,xs,e,q,l⟩=>⟨a,xs,e,Gq s q,DeepL.is s ds xs A k l⟩
 |.lst ds,_,A,k,⟨a,xs,A',e,q,z,l⟩=>⟨a,xs,e,.of (k a (by rw[z];exact mem_cons_self) _ q),DeepL.is s ds xs A' (λb hb=>k b (by rw[z];exact mem_cons_of_mem _ hb)) l⟩
 |.obj _ _ _,_,_,_,h=>h.elim
 |.dct ks ds,_,A,k,⟨a,kvs,A',e,q,y,z,l⟩=>⟨a,kvs,e,.inl (k a (by rw[z];exact mem_cons_self) _ q),y,DeepL.is s ds _ A' (λb hb=>k b (by rw[z];exact mem_cons_of_mem _ hb)) l⟩
theorem DeepL.is {K:Frag} {M M' H:Hp} (s:NL M M'):∀ (ds:List D) (xs:List V) (A:List Addr),(∀a∈A,∀o,H a=some o->M' a=some o)->DeepL K M H ds xs A->IsL K M' ds xs
 |[],_,_,_,h=>h.1
 |d::ds,_,A,k,⟨x,r,A1,A2,e,z,h,l⟩=>⟨x,r,e,Deep.is s d x A1 (λb hb=>k b (by rw[z];exact mem_append_left _ hb)) h,DeepL.is s ds r A2 (λb hb=>k b (by rw[z];exact mem_append_right _ hb)) l⟩
end
mutual
theorem Is.deep {K:Frag} {M H:Hp}:∀ (d:D) (v:V),lfD d=true->Is K M d v->Deep K M H d v []
 |.non,_,_,h=>⟨h,rfl⟩
 |.bl _,_,_,h=>⟨h,rfl⟩
 |.int _,_,_,h=>⟨h,rfl⟩
 |.str _,_,_,h=>⟨h,rfl⟩
 |.ty _,_,_,h=>⟨h,rfl⟩
 |.adr _,_,_,h=>⟨h,rfl⟩
 |.tup ds,_,f,⟨a,xs,e,q,l⟩=>⟨a,xs,e,.inr ⟨f,q⟩,IsL.deep ds xs f l⟩
 |.lst _,_,f,_=>by cases f
 |.obj _ _ _,_,f,_=>by cases f
 |.dct _ _,_,f,_=>by cases f
theorem IsL.deep {K:Frag} {M H:Hp}:∀ (ds:List D) (xs:List V),lfL ds=true->IsL K M ds xs->DeepL K M H ds xs []
 |[],_,_,h=>⟨h,rfl⟩
 |d::ds,_,f,⟨x,r,e,h,l⟩=>by
  have f':(lfD d&&lfL ds)=true:=f;rw[and_eq_true]at f';exact⟨x,r,[],[],e,rfl,Is.deep d x f'.1 h,IsL.deep ds r f'.2 l⟩
end
mutual
theorem Deep.lf {K:Frag} {M H:Hp}:∀ (d:D) (v:V) (A:List Addr),lfD d=true->Deep K M H d v A->A=[]
 |.non,_,_,_,h=>h.2
 |.bl _,_,_,_,h=>h.2
 |.int _,_,_,_,h=>h.2
 |.str _,_,_,_,h=>h.2
 |.ty _,_,_,_,h=>h.2
 |.adr _,_,_,_,h=>h.2
 |.tup ds,_,A,f,⟨a,xs,e,q,l⟩=>DeepL.lf ds xs A f l
 |.lst _,_,_,f,_=>by cases f
 |.obj _ _ _,_,_,f,_=>by cases f
 |.dct _ _,_,_,f,_=>by cases f
theorem DeepL.lf {K:Frag} {M H:Hp}:∀ (ds:List D) (xs:List V) (A:List Addr),lfL ds=true->DeepL K M H ds xs A->A=[]
 |[],_,_,_,h=>h.2
 |d::ds,_,A,f,⟨x,r,A1,A2,e,z,h,l⟩=>by
  have f':(lfD d&&lfL ds)=true:=f;rw[and_eq_true]at f';rw[z,Deep.lf d x A1 f'.1 h,DeepL.lf ds r A2 f'.2 l];rfl
end
mutual
theorem Is.nl {K:Frag} {M M':Hp} (s:NL M M'):∀ (d:D) (v:V),lfD d=true->Is K M d v->Is K M' d v
 |.non,_,_,h=>h
 |.bl _,_,_,h=>h
 |.int _,_,_,h=>h
 |.str _,_,_,h=>h
 |.ty _,_,_,h=>h
 |.adr _,_,_,h=>h
 |.tup ds,_,f,⟨a,xs,e,q,l⟩=>⟨a,xs,e,s.seqT q,IsL.nl s ds xs f l⟩
 |.lst _,_,f,_=>by cases f
 |.obj _ _ _,_,f,_=>by cases f
 |.dct _ _,_,f,_=>by cases f
theorem IsL.nl {K:Frag} {M M':Hp} (s:NL M M'):∀ (ds:List D) (xs:List V),lfL ds=true->IsL K M ds xs->IsL K M' ds xs
 |[],_,_,h=>h
 |d::ds,_,f,⟨x,r,e,h,l⟩=>by
  have f':(lfD d&&lfL ds)=true:=f;rw[and_eq_true]at f';exact⟨x,r,e,Is.nl s d x f'.1 h,IsL.nl s ds r f'.2 l⟩
end
noncomputable def OwnC (K:Frag) (O:Addr->Bool) (H:Hp):Cat->D->V->List Addr->Prop
 |.sh,d,v,A=>A=[]/\Is K (msk O H) d v
 |.top,d,v,A=>∃a ds xs,d=.lst ds/\v=.ref a/\A=[a]/\H a=some (.lst xs)/\IsL K (msk O H) ds xs
 |.deep,d,v,A=>Deep K (msk O H) H d v A
theorem OwnC.frame {K} (s:Same (msk O H) (msk O' H')) (k:∀a∈A,∀o,H a=some o->H' a=some o) (h:OwnC K O H c d v A):OwnC K O' H' c d v A:=by
 cases c with
 |sh=>exact⟨h.1,Is.mono s d v h.2⟩
 |top=>
  obtain⟨a,ds,xs,e1,e2,e3,e4,l⟩:=h;exact⟨a,ds,xs,e1,e2,e3,k a (by rw[e3];exact mem_cons_self) _ e4,IsL.mono s ds xs l⟩
 |deep=>exact Deep.frame (NL.of s) d v A k h
theorem OwnC.is {K} (s:Same (msk O H) (msk O' H)) (k:∀a∈A,O' a=false) (h:OwnC K O H c d v A):Is K (msk O' H) d v:=by
 cases c with
 |sh=>exact Is.mono s d v h.2
 |top=>
  obtain⟨a,ds,xs,e1,e2,e3,e4,l⟩:=h;subst e1;exact⟨a,xs,e2,.of (by rw[aG (k a (by rw[e3];exact mem_cons_self))];exact e4),IsL.mono s ds xs l⟩
 |deep=>exact Deep.is (NL.of s) d v A (λa ha o e=>by rw[aG (k a ha)];exact e) h
abbrev Sl:=Cat×D
abbrev Ev:=List (Option Sl)
structure Bs where
 H:Hp
 O:Addr->Bool
structure EnvOk (K:Frag) (B:Bs) (O:Addr->Bool) (σ:St) (H:Hp) (Y:Ev):Prop where
 same:Same B.H H
 bdom:∀b,B.O b=true->B.H b≠none
 sub:∀b,B.O b=true->O b=true
 lis:∀b,O b=true->Hid (H b)
 len:σ.length=Y.length
 fp:∃F:Nat->List Addr,(∀ (i:Nat) (s:Sl),Y[i]?=some (some s)->∃v,σ[i]?=some (some v)/\OwnC K O H s.1 s.2 v (F i))/\
  (∀i,(F i).Nodup)/\(∀i j a,a∈F i->a∈F j->i=j)/\∀i a,a∈F i->O a=true/\B.H a=none
def noO:Addr->Bool:=λ_=>false
theorem hG:msk noO H=H:=by
 funext b;unfold msk noO;rw[if_neg Bool.false_ne_true]
def vw (Y:Ev):Vv:=Y.map λs=>s.map (·.2)
noncomputable def Aw:Option Sl->Option D
 |some (.sh,d)=>some d
 |some (_,d)=>if lfD d then some d else none
 |none=>none
def shv (Y:Ev):Vv:=Y.map Aw
def iL (Y:Ev):Ev:=Y.map λs=>s.map λx=>(Cat.sh,x.2)
section
variable {K:Frag} {B:Bs} {O:Addr->Bool} {σ:St} {H H':Hp} {Y:Ev}
theorem EnvOk.dom (E:EnvOk K B O σ H Y):∀b,O b=true->H b≠none:=λb h=>(E.lis b h).ne
theorem EnvOk.nl (E:EnvOk K B O σ H Y):NL H (msk O H):=λb o h q=>by
 cases e:O b with
 |false=>rw[aG e];exact h
 |true=>
  have h':=E.lis b e;rw[h]at h';exact(q h').elim
theorem EnvOk.grow (E:EnvOk K B O σ H Y) (s:Same H H'):EnvOk K B O σ H' Y where
 same:=E.same.trans s
 bdom:=E.bdom
 sub:=E.sub
 lis:=λb h=>(E.lis b h).same s
 len:=E.len
 fp:=by
  obtain⟨F,h1,h2,h3,h4⟩:=E.fp;refine⟨F,λi x q=>?_,h2,h3,h4⟩;obtain⟨v,e,o⟩:=h1 i x q;exact⟨v,e,o.frame s.msk λa _ u hu=>s _ _ hu⟩
theorem EnvOk.fresh (E:EnvOk K B O σ H Y) (h:H p=none):O p=false:=gW E.dom h
theorem nZ {α β:Type} {f} {l:List (Option α)} {i:Nat} {y:β} (h:(l.map f)[i]?=some (some y)):∃x,l[i]?=some x/\f x=some y:=by
 rw[getElem?_map]at h;cases e:l[i]? with
 |none=>rw[e]at h;cases h
 |some x=>rw[e]at h;exact⟨x,rfl,Option.some.inj h⟩
theorem EnvOk.view (E:EnvOk K B O σ H Y):VE K noO σ H (vw Y) where
 lis:=λb h=>by cases h
 len:=by unfold vw;rw[length_map];exact E.len
 sh:=λi d q=>by
  obtain⟨F,h1,h2,h3,h4⟩:=E.fp;obtain⟨x,e,z⟩:=nZ q;cases x with
  |none=>cases z
  |some s=>
   cases z;obtain⟨v,e1,o⟩:=h1 i s e;exact⟨v,e1,o.is (O':=noO) (by rw[hG];exact msk_le) λ_ _=>rfl⟩
theorem EnvOk.viewS (E:EnvOk K B O σ H Y):VE K O σ H (shv Y) where
 lis:=E.lis
 len:=by unfold shv;rw[length_map];exact E.len
 sh:=λi d q=>by
  obtain⟨F,h1,h2,h3,h4⟩:=E.fp;obtain⟨x,e,z⟩:=nZ q;cases x with
  |none=>cases z
  |some s=>
   obtain⟨c,d'⟩:=s;obtain⟨v,e1,o⟩:=h1 i _ e;refine⟨v,e1,?_⟩;cases c with
   |sh=>cases z;exact o.2
   |top=>
    obtain⟨a,ds,xs,z1,_⟩:=o;have z':(if lfD d' then some d' else none)=some d:=z;rw[show d'=.lst ds from z1]at z';cases z'
   |deep=>
    obtain⟨f,z'⟩:=ay (show(if lfD d'=true then some d' else none)=some d from z);subst z';have hA:=Deep.lf d' v (F i) f o;exact Deep.is (NL.of (Same.refl _)) d' v (F i) (λa ha=>by rw[hA]at ha;cases ha) o
theorem EnvOk.frozen (E:EnvOk K B O σ H Y):EnvOk K B B.O σ H (iL Y)/\Same (msk O H) (msk B.O H):=by
 have le:Same (msk O H) (msk B.O H):=λb o h=>by
  obtain⟨h1,h2⟩:=aF h;rw[aG ?_];exact h2;cases e:B.O b with
  |false=>rfl
  |true=>rw[E.sub b e]at h1;cases h1
 refine⟨⟨E.same,E.bdom,λ_ h=>h,λb h=>E.lis b (E.sub b h),by unfold iL;rw[length_map];exact E.len,λ_=>[],λi s q=>?_,λ_=>List.nodup_nil,λ_ _ _ h=>(nomatch h),λ_ _ h=>(nomatch h)⟩,le⟩;obtain⟨F,h1,h2,h3,h4⟩:=E.fp;obtain⟨x,e,z⟩:=nZ q;cases x with
 |none=>cases z
 |some s'=>
  cases z;obtain⟨v,e1,o⟩:=h1 i _ e;refine⟨v,e1,rfl,o.is le λa ha=>?_⟩;cases e:B.O a with
  |false=>rfl
  |true=>exact absurd (h4 i a ha).2 (E.bdom a e)
theorem EnvOk.viewF (E:EnvOk K B O σ H Y):VE K B.O σ H (vw Y):=by
 have h:=E.frozen.1.viewS;have e:shv (iL Y)=vw Y:=by
  unfold shv iL vw;rw[List.map_map];apply List.map_congr_left;intro x _;cases x<;>rfl
 rw[e]at h;exact h
theorem EnvOk.more (E:EnvOk K B O σ H Y) {c:Cat} {d:D} {v:V} {A:List Addr} {O':Addr->Bool} (s:Same H H') (le:Same (msk O H) (msk O' H')) (hO:∀b,O' b=true->O b=true\/b∈A) (hO2:∀b,O b=true->O' b=true) (hO3:∀b∈A,O' b=true)
  (hl:∀a∈A,Hid (H' a)) (nd:A.Nodup) (fr:∀a∈A,H a=none) (h:OwnC K O' H' c d v A):EnvOk K B O' (σ++[some v]) H' (Y++[some (c,d)]) where
 same:=E.same.trans s
 bdom:=E.bdom
 sub:=λb q=>hO2 b (E.sub b q)
 lis:=λb q=>by
  rcases hO b q with q|q
  ·exact(E.lis b q).same s
  ·exact hl b q
 len:=by rw[length_append,length_append,E.len];rfl
 fp:=by
  obtain⟨F,h1,h2,h3,h4⟩:=E.fp;have no:∀i a,a∈F i->a ∉ A:=λi a ha hA=>E.dom a (h4 i a ha).1 (fr a hA);refine⟨λi=>if i=Y.length then A else F i,λi x q=>?_,λi=>?_,λi j a hi hj=>?_,λi a hi=>?_⟩
  ·by_cases hi:i=Y.length
   ·subst hi;rw[getElem?_append_right (le_refl _)]at q;simp at q;subst q;refine⟨v,?_,by simp only[if_true];exact h⟩;rw[getElem?_append_right (Nat.le_of_eq E.len),E.len];simp
   ·have hi2:i<Y.length:=by
     by_cases h:i<Y.length
     ·exact h
     ·rw[getElem?_append_right (by omega)]at q;have:i-Y.length≠0:=by omega
      cases hk:i-Y.length with
      |zero=>omega
      |succ m=>rw[hk]at q;simp at q
    rw[getElem?_append_left hi2]at q;obtain⟨w,e,o⟩:=h1 i x q;refine⟨w,?_,?_⟩
    ·rw[getElem?_append_left (by rw[E.len];exact hi2)];exact e
    ·simp only[if_neg hi];exact o.frame le λa ha u hu=>s _ _ hu
  ·dsimp only;split
   ·exact nd
   ·exact h2 i
  ·dsimp only at hi hj;split at hi<;>split at hj
   ·omega
   ·exact absurd hi (no j a hj)
   ·exact absurd hj (no i a hi)
   ·exact h3 i j a hi hj
  ·dsimp only at hi;split at hi
   ·exact⟨hO3 a hi,E.same.free (fr a hi)⟩
   ·exact⟨hO2 a (h4 i a hi).1,(h4 i a hi).2⟩
theorem getElem?_last {α:Type} (l:List α) (x:α):(l++[x])[l.length]?=some x:=by
 rw[getElem?_append_right (le_refl _)];simp
theorem dq {α:Type} {l} {x} (h:i≠l.length) {y:α} (e:(l++[x])[i]?=some y):l[i]?=some y:=by
 by_cases hi:i<l.length
 ·rw[getElem?_append_left hi]at e;exact e
 ·rw[getElem?_append_right (by omega)]at e;cases hk:i-l.length with
  |zero=>omega
  |succ m=>rw[hk]at e;simp at e
theorem EnvOk.put {v:V} {s:Sl} (E:EnvOk K B O (σ++[some v]) H (Y++[some s])) (i:Nat):EnvOk K B O (σ.set i (some v)) H (Y.set i (some s)) where
 same:=E.same
 bdom:=E.bdom
 sub:=E.sub
 lis:=E.lis
 len:=by have:=E.len;simp at this⊢;exact this
 fp:=by
  obtain⟨F,h1,h2,h3,h4⟩:=E.fp;have len:σ.length=Y.length:=by have:=E.len;simp at this;exact this
  obtain⟨v',e1,o1⟩:=h1 Y.length s (getElem?_last _ _);rw[<-len,getElem?_last]at e1;cases e1;refine⟨λj=>if j=i then F Y.length else if j=Y.length then[]else F j,λj x q=>?_,λj=>?_,λj k a hj hk=>?_,λj a hj=>?_⟩
  ·rcases get_set_some q with⟨e,q'⟩|⟨e,q'⟩
   ·cases q';subst e;have hi:j<σ.length:=by rw[len];exact m3 q
    exact⟨v,by simp[hi],by simp only[if_true];exact o1⟩
   ·have hj:j≠Y.length:=by
     have:=(List.getElem?_eq_some_iff.mp q').1;omega
    obtain⟨w,e2,o2⟩:=h1 j x (by rw[getElem?_append_left (List.getElem?_eq_some_iff.mp q').1];exact q');refine⟨w,?_,by simp only[if_neg e,if_neg hj];exact o2⟩;rw[List.getElem?_set_ne (Ne.symm e)];exact dq (by rw[len];exact hj) e2
  ·dsimp only;split
   ·exact h2 _
   ·split
    ·exact List.nodup_nil
    ·exact h2 _
  ·dsimp only at hj hk;split at hj
   ·split at hk
    ·omega
    ·split at hk
     ·cases hk
     ·have:=h3 _ _ a hj hk;omega
   ·split at hj
    ·cases hj
    ·split at hk
     ·have:=h3 _ _ a hj hk;omega
     ·split at hk
      ·cases hk
      ·exact h3 _ _ a hj hk
  ·dsimp only at hj;split at hj
   ·exact h4 _ a hj
   ·split at hj
    ·cases hj
    ·exact h4 _ a hj
theorem EnvOk.setSh (E:EnvOk K B O σ H Y) (h:Is K (msk O H) d v):EnvOk K B O (σ.set i (some v)) H (Y.set i (some (.sh,d))):=
 (E.more (c:=.sh) (A:=[]) (O':=O) (Same.refl _) (Same.refl _) (λ_ h=>.inl h) (λ_ h=>h) (λ_ h=>(nomatch h)) (λ_ h=>(nomatch h)) List.nodup_nil (λ_ h=>(nomatch h)) ⟨rfl,h⟩).put i
end
mutual
theorem Deep.lists {K:Frag} {M H:Hp}:∀ (d:D) (v:V) (A:List Addr),Deep K M H d v A->∀a∈A,Hid (H a)
 |.non,_,_,h,_,q=>by rw[h.2]at q;cases q
 |.bl _,_,_,h,_,q=>by rw[h.2]at q;cases q
 |.int _,_,_,h,_,q=>by rw[h.2]at q;cases q
 |.str _,_,_,h,_,q=>by rw[h.2]at q;cases q
 |.ty _,_,_,h,_,q=>by rw[h.2]at q;cases q
 |.adr _,_,_,h,_,q=>by rw[h.2]at q;cases q
 |.tup ds,_,A,⟨a,xs,e,_,l⟩,b,q=>DeepL.lists ds xs A l b q
 |.lst ds,_,A,⟨a,xs,A',e,h,z,l⟩,b,q=>by
  rw[z]at q;rcases mem_cons.mp q with rfl|q
  ·exact .inl ⟨xs,h⟩
  ·exact DeepL.lists ds xs A' l b q
 |.obj _ _ _,_,_,h,_,_=>h.elim
 |.dct ks ds,_,A,⟨a,kvs,A',e,h,y,z,l⟩,b,q=>by
  rw[z]at q;rcases mem_cons.mp q with rfl|q
  ·exact .inr (.inr ⟨kvs,h⟩)
  ·exact DeepL.lists ds _ A' l b q
theorem DeepL.lists {K:Frag} {M H:Hp}:∀ (ds:List D) (xs:List V) (A:List Addr),DeepL K M H ds xs A->∀a∈A,Hid (H a)
 |[],_,_,h,_,q=>by rw[h.2]at q;cases q
 |d::ds,_,A,⟨x,r,A1,A2,e,z,h,l⟩,b,q=>by
  rw[z]at q;rcases mem_append.mp q with q|q
  ·exact Deep.lists d x A1 h b q
  ·exact DeepL.lists ds r A2 l b q
end
theorem DeepL.len {K}:∀ {ds:List D} {xs:List V} {A:List Addr},DeepL K M H ds xs A->ds.length=xs.length
 |[],_,_,h=>by rw[h.1];rfl
 |_::_,_,_,⟨x,r,A1,A2,e,z,h,l⟩=>by rw[e,length_cons,length_cons,DeepL.len l]
theorem DeepL.snoc {K} (h:Deep K M H y v A'):∀ {ds:List D} {xs:List V} {A:List Addr},DeepL K M H ds xs A->DeepL K M H (ds++[y]) (xs++[v]) (A++A')
 |[],_,_,l=>by
  rw[l.1,l.2];exact⟨v,[],A',[],rfl,by simp,h,rfl,rfl⟩
 |d::ds,_,_,⟨x,r,A1,A2,e,z,q,l⟩=>by
  rw[e,z];exact⟨x,r++[v],A1,A2++A',rfl,by rw[List.append_assoc],q,DeepL.snoc h l⟩
noncomputable def PU (X:Cx) (e:Expr) (t:TE):Prop:=PE X e t/\∀ (i:Nat) (x:Str) (px spos:Pos),X.N.Nodup->X.N[i]?=some x->X.env.scope.names.lookup x=some .local->
 swapsWith e (some (.Name x px)) spos.line X.env=pure true->PS X (.Assign [.Name x px] e spos) (vR t (pe i))
theorem PU.imp (h:PU X e t) (k:∀σ H Q,t' σ H Q->t σ H Q):PU X e t':=
 ⟨h.1.imp k,λi x px spos a b c d=>(h.2 i x px spos a b c d).imp λEn σ H q=>k σ H _ q⟩
theorem PE.by2 (h1:PE X e t1) (h2:PE X e t2) (k:∀σ H Q,t σ H Q->t1 σ H Q\/t2 σ H Q):PE X e t:=λpins s σ H Q I q=>(k σ H Q q).elim (h1 pins s σ H Q I) (h2 pins s σ H Q I)
theorem PS.by2 (h1:PS X e t1) (h2:PS X e t2) (k:∀En σ H,t En σ H->t1 En σ H\/t2 En σ H):PS X e t:=λpins s σ H Q I q=>(k Q σ H q).elim (h1 pins s σ H Q I) (h2 pins s σ H Q I)
theorem PU.by2 (h1:PU X e t1) (h2:PU X e t2) (k:∀σ H Q,t σ H Q->t1 σ H Q\/t2 σ H Q):PU X e t:=
 ⟨h1.1.by2 h2.1 k,λi x px spos a b c d=>(h1.2 i x px spos a b c d).by2 (h2.2 i x px spos a b c d) λEn σ H q=>k σ H _ q⟩
noncomputable def fg:Expr->Bool
 |.ListComp _ _ _ _=>true
 |.SetComp _ _ _ _=>true
 |.DictComp _ _ _ _ _=>true
 |_=>false
theorem hU (h:fg e=false) (t:Option Expr) (l:Nat) (env:Env):swapsWith e t l env=pure false:=by
 cases e<;>first|rfl|cases h
theorem PE.pu (h:PE X e t) (hc:fg e=false):PU X e t:=⟨h,λi x px spos _ _ _ q=>by
 rw[hU hc]at q;have q':(Sem.pure false:Sem Bool)=Sem.pure true:=q;cases q'⟩
theorem tH (hc:X.calm=true) (S:CSc X scope ks) (hi:PI X tg iter wi) (hg:∀C s H fp,PG (cxC X scope C s H fp) tg g) (htt:∀C s H fp,PTs (cxC X scope C s H fp) ifs tt) (he:∀C s H fp,PE (cxC X scope C s H fp) elt te) (hs:∀x,foldedSetIterable iter X.env x=pure x):PU X (.ListComp elt [⟨tg,iter,ifs,0⟩] scope pos) (pD wi ks g tt te):=
 ⟨Ab hc S hi hg htt he hs,λi x px spos hN hx hl hsw=>Ac hN hx hl hc S hi hg htt he hsw hs⟩
noncomputable def tFr (K:Frag) (Y:Vv) (o:Option D):TE:=λσ H Q=>VE K noO σ H Y/\∃d,o=some d/\∀v H' A,Same H H'->Deep K H' H' d v A->A.Nodup->(∀a∈A,H a=none)->Q v H'
noncomputable def Je (K:Frag) (Y:Vv) (o:Option (List D)):TA:=λσ H Q=>VE K noO σ H Y/\∃ds,o=some ds/\∀vs H' A,Same H H'->DeepL K H' H' ds vs A->A.Nodup->(∀a∈A,H a=none)->Q vs H'
def PFr (X:Cx) (e:Expr) (f:Vv->Option D):Prop:=∀Y,PU X e (tFr X.K Y (f Y))
def rh (X:Cx) (es:List Expr) (f:Vv->Option (List D)):Prop:=∀Y,PA X es (Je X.K Y (f Y))
def PPu (X:Cx) (e:Expr) (f:Vv->Option D):Prop:=∀O Y,PU X e (tP X.K O Y (f Y))
def PFu (X:Cx) (e:Expr) (f:Vv->Option (List D)):Prop:=∀O Y,PU X e (tPF X.K O Y (f Y))
section
variable {X:Cx} {e:Expr} {es:List Expr} {pos:Pos}
def lfO (o:Option D):Option D:=o.bind λd=>if lfD d then some d else none
def mo (o:Option (List D)):Option D:=o.bind λds=>if lfL ds then some (.lst ds)else none
theorem Du {K} (h:tFr K Y (lfO o) σ H Q):tP K noO Y o σ H Q:=by
 obtain⟨E,d,e,k⟩:=h;obtain⟨d',e1,e2⟩:=bind_some e;obtain⟨f,e3⟩:=ay e2;subst e3;refine⟨E,d',e1,λv H' s i=>k v H' [] s ?_ List.nodup_nil λ_ q=>(nomatch q)⟩;rw[hG]at i;exact Is.deep d' v f i
theorem Ax {K} (h:tFr K Y (mo o) σ H Q):tPF K noO Y o σ H Q:=by
 obtain⟨E,d,e,k⟩:=h;obtain⟨ds,e1,e2⟩:=bind_some e;obtain⟨f,e3⟩:=ay e2;subst e3;refine⟨E,ds,e1,λp xs H' s hp l=>?_⟩;rw[hG]at l;refine k _ _ [p] (s.trans (Same.new hp)) ⟨p,xs,[],rfl,ah,rfl,?_⟩ (by simp) λa ha=>?_
 ·exact DeepL.frame (NL.of (Same.new hp)) ds xs [] (λ_ q=>(nomatch q)) (IsL.deep (H:=H') ds xs f l)
 ·rw[mem_singleton.mp ha];exact s.free hp
theorem Gs (h:PPu X e f):PFr X e (λY=>lfO (f Y)):=λY=>(h noO Y).imp λσ H Q q=>Du q
theorem Dv (h:PFu X e f):PFr X e (λY=>mo (f Y)):=λY=>(h noO Y).imp λσ H Q q=>Ax q
def orO {α β:Type} (f g:α->Option β):α->Option β:=λx=>match f x with|some y=>some y|none=>g x
theorem or_some {x:α} {y:β} (h:orO f g x=some y):f x=some y\/g x=some y:=by
 unfold orO at h;split at h
 ·rename_i z hz;rw[hz];exact .inl h
 ·exact .inr h
theorem B5 (h1:PFr X e f) (h2:PFr X e g):PFr X e (orO f g):=λY=>(h1 Y).by2 (h2 Y) λσ H Q ⟨E,d,q,k⟩=>by
 rcases or_some q with q|q
 ·exact .inl ⟨E,d,q,k⟩
 ·exact .inr ⟨E,d,q,k⟩
theorem hV:PFr X e (λ_=>none):=λY=>⟨λ_ _ _ _ _ _ ⟨_,_,q,_⟩=>(by cases q),λ_ _ _ _ _ _ _ _ _ _ _ _ _ _ ⟨_,_,q,_⟩=>(by cases q)⟩
theorem n4:PPu X e (λ_=>none):=λO Y=>⟨λ_ _ _ _ _ _ ⟨_,_,q,_⟩=>(by cases q),λ_ _ _ _ _ _ _ _ _ _ _ _ _ _ ⟨_,_,q,_⟩=>(by cases q)⟩
theorem cr:PFu X e (λ_=>none):=λO Y=>⟨λ_ _ _ _ _ _ ⟨_,_,q,_⟩=>(by cases q),λ_ _ _ _ _ _ _ _ _ _ _ _ _ _ ⟨_,_,q,_⟩=>(by cases q)⟩
theorem wQ (h1:PPu X e f) (h2:PPu X e g):PPu X e (orO f g):=λO Y=>(h1 O Y).by2 (h2 O Y) λσ H Q ⟨E,d,q,k⟩=>by
 rcases or_some q with q|q
 ·exact .inl ⟨E,d,q,k⟩
 ·exact .inr ⟨E,d,q,k⟩
theorem Ay:rh X [] (λ_=>some []):=λY=>pa_nil.imp λσ H Q ⟨E,ds,e,k⟩=>by
 cases e;exact k [] H [] (Same.refl _) ⟨rfl,rfl⟩ List.nodup_nil λ_ q=>(nomatch q)
theorem Deep.have {K} (h:Deep K M H d v A) (q:a∈A):H a≠none:=by
 exact(Deep.lists d v A h a q).ne
theorem frs_cons (h:PFr X e f) (hr:rh X es g) (hs:starEach (e::es) X.env=(false,eval e X.env)::starEach es X.env):rh X (e::es) (ae f g):=
 λY=>(bM (h Y).1 (hr Y) hs).imp λσ H Q ⟨E,ds,q,k⟩=>by
 obtain⟨d,e1,q⟩:=bind_some q
 obtain⟨r,e2,q⟩:=bind_some q
 cases q
 refine⟨E,d,e1,λv H1 A1 s1 i1 n1 f1=>⟨E.grow s1,r,e2,λvs H2 A2 s2 i2 n2 f2=>k (v::vs) H2 (A1++A2) (s1.trans s2) ⟨v,vs,A1,A2,rfl,rfl,Deep.frame (NL.of s2) d v A1 (λa _ o h=>s2 _ _ h) i1,i2⟩ ?_ ?_⟩⟩
 ·refine List.nodup_append.mpr ⟨n1,n2,λa ha b hb z=>?_⟩;subst z;exact i1.have ha (f2 a hb)
 ·intro a ha;rcases mem_append.mp ha with ha|ha
  ·exact f1 a ha
  ·exact s1.free (f2 a ha)
theorem Dw (h:rh X es g):PFr X (.List es pos) (λY=>(bJ (g Y)).bind λds=>some (.lst ds)):=λY=>PE.pu ((wa (h Y)).imp λσ H Q ⟨E,d,q,k⟩=>by
 obtain⟨ds,z,q2⟩:=bind_some q;cases q2;obtain⟨e1,e2⟩:=cm z;refine⟨E,ds,e1,λvs H1 A s1 l n f=>⟨by rw[<-l.len];exact Nat.le_of_lt e2,λp hp=>?_⟩⟩;have hpA:p ∉ A:=λz=>by
  exact(DeepL.lists ds vs A l p z).ne (hp)
 refine k _ _ (p::A) (s1.trans (Same.new hp)) ⟨p,vs,A,rfl,ah,rfl,DeepL.frame (NL.of (Same.new hp)) ds vs A (λa _ o h=>Same.new hp _ _ h) l⟩ (List.nodup_cons.mpr ⟨hpA,n⟩) λa ha=>?_;rcases mem_cons.mp ha with rfl|ha
 ·exact s1.free hp
 ·exact f a ha) rfl
theorem Dx {x1} (h:rh X es g):PFr X (.Tuple es x1 pos) (λY=>(bJ (g Y)).bind λds=>some (.tup ds)):=λY=>PE.pu ((vZ (h Y)).imp λσ H Q ⟨E,d,q,k⟩=>by
 obtain⟨ds,z,q2⟩:=bind_some q;cases q2;obtain⟨e1,e2⟩:=cm z;refine⟨E,ds,e1,λvs H1 A s1 l n f=>⟨by rw[<-l.len];exact Nat.le_of_lt e2,λp hp=>?_⟩⟩;exact k _ _ A (s1.trans (Same.new hp)) ⟨p,vs,rfl,.inl ah,DeepL.frame (NL.of (Same.new hp)) ds vs A (λa _ o h=>Same.new hp _ _ h) l⟩ n f) rfl
abbrev xFr (K:Frag) (f:Vv->Option D):TE:=λσ H Q=>∃z:Vv,tFr K z (f z) σ H Q
theorem rm {K} (h:tFr K Y ((aq ks fi g ft fe Y).bind λds=>some (.lst ds)) σ H Q):
  pD (tJ K noO Y (fi Y)) ks (xG K ks g) (xT K ft) (xFr K fe) σ H Q:=by
 obtain⟨E,d,ee,k⟩:=h
 obtain⟨tot,ef,ed⟩:=bind_some ee
 cases ed
 obtain⟨ds,e1,e⟩:=bind_some ef
 obtain⟨e2,hz⟩:=cm e
 refine⟨E,ds,e1,λJ H1 s1 it=>⟨λi m ys H2=>i<=ds.length/\m=ds.length-i/\Same H1 H2/\∃rs rest A,DeepL K H2 H2 rs ys A/\A.Nodup/\(∀a∈A,H a=none)/\jv (gZ g ft fe (c8 ks Y)) (ds.drop i)=some rest/\tot=rs++rest,
  ⟨ds.length,Nat.zero_le _,by simp,Same.refl _,[],tot,[],⟨rfl,rfl⟩,List.nodup_nil,λ_ q=>(nomatch q),by simpa using e2,rfl⟩,?_⟩⟩
 rintro i m ys H2 ⟨hi,rfl,s2,rs,rest,A,il,nd,fr,er,et⟩
 have E2:VE K noO σ H2 Y:=E.grow (s1.trans s2)
 have hit:=it i H2 noO s2.msk E2.dom
 have hlen:ys.length<sizeLine:=by
  rw[<-il.len];have:rs.length<=tot.length:=by rw[et,length_append];omega
  omega
 by_cases hlt:i<ds.length
 ·refine .inr ?_;have hd:ds[i]?=some ds[i]:=getElem?_eq_getElem hlt;obtain⟨go,yl⟩:=hit.1 _ hd;refine⟨go,hlen,λx H3 hy=>?_⟩;obtain⟨s3,ix⟩:=yl x H3 hy;rw[List.drop_eq_getElem_cons hlt]at er;obtain⟨o,eo,er⟩:=bind_some (show(gZ g ft fe (c8 ks Y) ds[i]).bind _=some rest from er);obtain⟨rest',er',er⟩:=bind_some er;obtain⟨Y1,g1,eo⟩:=bind_some eo;obtain⟨c,c1,eo⟩:=bind_some eo;refine⟨⟨noO,c8 ks Y,ds[i]⟩,(E2.grow s3).wiped ks,ix,Y1,g1,λσ4 E4 l4 k4=>⟨⟨l4,λj w hw=>?_⟩,⟨noO,Y1⟩,E4,c,c1,λH5 s5=>?_⟩⟩
  ·exact k4 j w (wipe_iff.mp hw).2 hw
  ·have hm:ds.length-(i+1)<ds.length-i:=by omega
   cases c with
   |true=>
    rw[if_pos rfl]at eo;refine C5 ?_;obtain⟨y,y1,eo⟩:=bind_some eo;cases eo;refine⟨Y1,E4.grow s5,y,y1,λv H6 A' s6 iv nv fv=>⟨_,hm,hlt,rfl,s2.trans (s3.trans (s5.trans s6)),rs++[y],rest',A++A',?_,?_,?_,er',?_⟩⟩
    ·have s36:=s3.trans (s5.trans s6);have il':=DeepL.frame (NL.of s36) rs ys A (λa _ o h=>s36 _ _ h) il;exact DeepL.snoc iv il'
    ·refine List.nodup_append.mpr ⟨nd,nv,λa ha b hb z=>?_⟩;subst z;exact((DeepL.lists rs ys A il a ha).same (s3.trans s5)).ne (fv a hb)
    ·intro a ha;rcases mem_append.mp ha with ha|ha
     ·exact fr a ha
     ·exact(s1.trans (s2.trans (s3.trans s5))).free (fv a ha)
    ·rw[et,<-Option.some.inj er,List.append_assoc];rfl
   |false=>
    rw[if_neg Bool.false_ne_true]at eo;refine C4 ?_;cases eo;have s35:=s3.trans s5;refine⟨_,hm,hlt,rfl,s2.trans s35,rs,rest',A,DeepL.frame (NL.of s35) rs ys A (λa _ o h=>s35 _ _ h) il,nd,fr,er',?_⟩;rw[et,<-Option.some.inj er]
 ·have hie:i=ds.length:=by omega
  subst hie;refine .inl ⟨hit.2 (le_refl _),Nat.le_of_lt hlen,λp hp=>?_⟩;rw[List.drop_of_length_le (le_refl _)]at er;cases er;rw[List.append_nil]at et;subst et;have hpA:p ∉ A:=λz=>by
   exact(DeepL.lists tot ys A il p z).ne (hp)
  refine k _ _ (p::A) (s1.trans (s2.trans (Same.new hp))) ⟨p,ys,A,rfl,ah,rfl,DeepL.frame (NL.of (Same.new hp)) tot ys A (λa _ o h=>Same.new hp _ _ h) il⟩ (List.nodup_cons.mpr ⟨hpA,nd⟩) λa ha=>?_;rcases mem_cons.mp ha with rfl|ha
  ·exact(s1.trans s2).free hp
  ·exact fr a ha
end
noncomputable def tEv (K:Frag) (B:Bs) (O:Addr->Bool) (Y:Ev) (o:Option (Sl×Ev)):TE:=λσ H Q=>EnvOk K B O σ H Y/\∃s Y',o=some (s,Y')/\∀v H' O',Same (msk O H) (msk O' H')->EnvOk K B O' (σ++[some v]) H' (Y'++[some s])->Q v H'
def PEv (X:Cx) (e:Expr) (g:Ev->Option (Sl×Ev)):Prop:=∀B O Y,PU X e (tEv X.K B O Y (g Y))
section
variable {X:Cx} {e:Expr}
def n5 (f:Vv->Option D):Ev->Option (Sl×Ev):=λY=>(f (vw Y)).bind λd=>some ((.deep,d),Y)
noncomputable def tI (f:Vv->Option (List D)):Ev->Option (Sl×Ev):=λY=>(f (shv Y)).bind λds=>some ((.top,.lst ds),Y)
def Az (f:Vv->Option D):Ev->Option (Sl×Ev):=λY=>(f (shv Y)).bind λd=>some ((.sh,d),Y)
def Dy (f:Vv->Option D):Ev->Option (Sl×Ev):=λY=>(f (vw Y)).bind λd=>some ((.sh,d),iL Y)
theorem Gu (h:PFr X e f):PEv X e (n5 f):=λB O Y=>(h (vw Y)).imp λσ H Q ⟨E,s,Y',q,k⟩=>by
 obtain⟨d,q1,q2⟩:=bind_some q;cases q2;refine⟨E.view,d,q1,λv H' A s i n f=>?_⟩;have hl:=Deep.lists d v A i;have hO:∀b,(O b||decide (b∈A))=true->Hid (H' b):=λb hb=>by
  rcases(Bool.or_eq_true _ _).mp hb with hb|hb
  ·exact(E.lis b hb).same s
  ·exact hl b (of_decide_eq_true hb)
 have le:Same (msk O H) (msk (λb=>O b||decide (b∈A)) H'):=λb o q=>by
  obtain⟨q1,q2⟩:=aF q;have hb:b ∉ A:=λz=>by rw[f b z]at q2;cases q2
  rw[aG (by simp[q1,hb])];exact s _ _ q2
 refine k v H' _ le (E.more s le (λb hb=>?_) (λb hb=>by simp[hb]) (λb hb=>by simp[hb]) hl n f ?_)
 ·rcases(Bool.or_eq_true _ _).mp hb with hb|hb
  ·exact .inl hb
  ·exact .inr (of_decide_eq_true hb)
 ·refine Deep.frame (λb o hb hn=>?_) d v A (λa _ o h=>h) i;cases z:(O b||decide (b∈A))with
  |false=>rw[aG z];exact hb
  |true=>
   have e:=hO b z;rw[hb]at e;exact(hn e).elim
theorem Dz (h:PFu X e f):PEv X e (tI f):=λB O Y=>(h O (shv Y)).imp λσ H Q ⟨E,s,Y',q,k⟩=>by
 obtain⟨ds,q1,q2⟩:=bind_some q;cases q2;refine⟨E.viewS,ds,q1,λp xs H' s hp l=>?_⟩;have hO:=(E.grow s).fresh hp;have le:Same (msk O H') (msk (λb=>O b||decide (b=p)) (upd H' p (.lst xs))):=λb o q=>by
  obtain⟨q1,q2⟩:=aF q;have hb:b≠p:=ak q2 hp;rw[aG (by simp[q1,hb]),ag hb];exact q2
 refine k _ _ _ (s.msk.trans le) ((E.grow s).more (A:=[p]) (Same.new hp) le (λb hb=>?_) (λb hb=>by simp[hb]) (λb hb=>by simp[mem_singleton.mp hb]) (λa ha=>?_) (by simp) (λa ha=>by rw[mem_singleton.mp ha];exact hp) ⟨p,ds,xs,rfl,rfl,rfl,ah,IsL.mono le ds xs l⟩)
 ·rcases(Bool.or_eq_true _ _).mp hb with hb|hb
  ·exact .inl hb
  ·exact .inr (by simp[of_decide_eq_true hb])
 ·rw[mem_singleton.mp ha];exact .inl ⟨xs,ah⟩
theorem EnvOk.moreSh {K} (E:EnvOk K B O σ H Y) (h:Is K (msk O H) d v):EnvOk K B O (σ++[some v]) H (Y++[some (.sh,d)]):=
 E.more (c:=.sh) (A:=[]) (O':=O) (Same.refl _) (Same.refl _) (λ_ h=>.inl h) (λ_ h=>h) (λ_ h=>(nomatch h)) (λ_ h=>(nomatch h)) List.nodup_nil (λ_ h=>(nomatch h)) ⟨rfl,h⟩
theorem Gv (h:PPu X e f):PEv X e (Az f):=λB O Y=>(h O (shv Y)).imp λσ H Q ⟨E,s,Y',q,k⟩=>by
 obtain⟨d,q1,q2⟩:=bind_some q;cases q2;exact⟨E.viewS,d,q1,λv H' s i=>k v H' O s.msk ((E.grow s).moreSh i)⟩
theorem Gw (h:PPu X e f):PEv X e (Dy f):=λB O Y=>(h B.O (vw Y)).imp λσ H Q ⟨E,s,Y',q,k⟩=>by
 obtain⟨d,q1,q2⟩:=bind_some q;cases q2;obtain⟨E',le⟩:=E.frozen;exact⟨E.viewF,d,q1,λv H' s i=>k v H' B.O (le.trans s.msk) ((E'.grow s).moreSh i)⟩
theorem tK (h1:PEv X e f) (h2:PEv X e g):PEv X e (orO f g):=λB O Y=>(h1 B O Y).by2 (h2 B O Y) λσ H Q ⟨E,s,Y',q,k⟩=>by
 rcases or_some q with q|q
 ·exact .inl ⟨E,s,Y',q,k⟩
 ·exact .inr ⟨E,s,Y',q,k⟩
end
inductive Out where
 |nx (Y:Ev)
 |rt (s:Sl)
 |bk (Y:Ev)
 |ct (Y:Ev)
noncomputable def RetOk (K:Frag) (B:Bs) (H':Hp) (s:Sl) (v:V):Prop:=∃ (O':Addr->Bool) (A:List Addr),Same B.H H'/\(∀b,B.O b=true->O' b=true)/\(∀b,O' b=true->Hid (H' b))/\A.Nodup/\(∀a∈A,O' a=true/\B.H a=none)/\OwnC K O' H' s.1 s.2 v A
noncomputable def post (K:Frag) (B:Bs) (O:Addr->Bool) (H:Hp) (En:Ends):Out->Prop
 |.nx Y=>∀σ' H' O',Same (msk O H) (msk O' H')->EnvOk K B O' σ' H' Y->En.nx σ' H'
 |.bk Y=>∀σ' H' O',Same (msk O H) (msk O' H')->EnvOk K B O' σ' H' Y->En.bk σ' H'
 |.ct Y=>∀σ' H' O',Same (msk O H) (msk O' H')->EnvOk K B O' σ' H' Y->En.ct σ' H'
 |.rt s=>∀v H',RetOk K B H' s v->En.rt v H'
theorem post.mono {K} (s:Same (msk O H) (msk O1 H1)):∀ {o:Out},post K B O H En o->post K B O1 H1 En o
 |.nx _,h=>λσ' H' O' s' E=>h σ' H' O' (s.trans s') E
 |.bk _,h=>λσ' H' O' s' E=>h σ' H' O' (s.trans s') E
 |.ct _,h=>λσ' H' O' s' E=>h σ' H' O' (s.trans s') E
 |.rt _,h=>h
noncomputable def tS (K:Frag) (B:Bs) (O:Addr->Bool) (Y:Ev) (o:Option Out):TS:=λEn σ H=>EnvOk K B O σ H Y/\∃out,o=some out/\post K B O H En out
def PR (X:Cx) (st:Stmt) (F:Ev->Option Out):Prop:=∀B O Y,PS X st (tS X.K B O Y (F Y))
def PRs (X:Cx) (st:List Stmt) (F:Ev->Option Out):Prop:=∀B O Y,PSs X st (tS X.K B O Y (F Y))
section
variable {X:Cx} {st:Stmt} {rest:List Stmt} {e tg iter:Expr} {pos:Pos}
theorem DA:PRs X [] (λY=>some (.nx Y)):=λB O Y=>pss_nil.imp λEn σ H ⟨E,o,q,k⟩=>by
 cases q;exact k σ H O (Same.refl _) E
def ab (F G:Ev->Option Out):Ev->Option Out:=λY=>(F Y).bind λo=>match o with|.nx Y'=>G Y'|o=>some o
theorem AA (h1:PR X st F) (h2:PRs X rest G):PRs X (st::rest) (ab F G):=λB O Y=>
 (kg (h1 B O Y) (PSs.ex λz:(Addr->Bool)×Ev=>h2 B z.1 z.2)).imp λEn σ H ⟨E,o,q,k⟩=>by
 obtain⟨o1,q1,q2⟩:=bind_some q;refine⟨E,o1,q1,?_⟩;cases o1 with
 |nx Y'=>exactλσ' H' O' s' E'=>⟨⟨O',Y'⟩,E',o,q2,k.mono s'⟩
 |rt d=>cases q2;exact k
 |bk Y'=>cases q2;exact k
 |ct Y'=>cases q2;exact k
theorem wR:PRs X rest (λ_=>none):=λB O Y=>pss_never.imp λEn σ H ⟨E,o,q,k⟩=>by cases q
theorem wS:PR X st (λ_=>none):=λB O Y=>ps_never.imp λEn σ H ⟨E,o,q,k⟩=>by cases q
def fj (g:Ev->Option (Sl×Ev)):Ev->Option Out:=λY=>(g Y).bind λz=>some (.rt z.1)
theorem EnvOk.ret {K} (E:EnvOk K B O σ H Y) {i:Nat} (h:Y[i]?=some (some s)) (hv:σ[i]?=some (some v)):RetOk K B H s v:=by
 obtain⟨F,h1,h2,h3,h4⟩:=E.fp;obtain⟨v',e,o⟩:=h1 i s h;rw[hv]at e;cases e;exact⟨O,F i,E.same,E.sub,E.lis,h2 i,h4 i,o⟩
theorem wT (h:PEv X e g):PR X (.Return (some e) pos) (fj g):=λB O Y=>(vO (h B O Y).1).imp λEn σ H ⟨E,o,q,k⟩=>by
 obtain⟨⟨s,Y'⟩,q1,q2⟩:=bind_some q;cases q2;refine⟨E,s,Y',q1,λv H' O' s' E'=>k v H' ?_⟩;have len:σ.length=Y'.length:=by have:=E'.len;simp at this;exact this
 exact E'.ret (i:=Y'.length) (getElem?_last _ _) (by rw[<-len];exact getElem?_last _ _)
theorem AB:PR X (.Return none pos) (λ_=>some (.rt (.deep,.non))):=λB O Y=>ps_retN.imp λEn σ H ⟨E,o,q,k⟩=>by
 cases q;exact k .non H ⟨O,[],E.same,E.sub,E.lis,List.nodup_nil,λ_ h=>(nomatch h),rfl,rfl⟩
def fZ (Y:Ev) (i:Nat):Option Sl:=match Y[i]? with
 |some (some s)=>some s
 |_=>none
theorem eD (h:fZ Y i=some s):Y[i]?=some (some s):=by
 unfold fZ at h;split at h
 ·cases h;assumption
 ·cases h
theorem rp (i:Nat) (hN:X.N[i]?=some x) (hv:Vis X.env.scope x) (hd:(x==("__debug__":Str))=false) (hcd:(x==("__classdict__":Str))=false):PR X (.Return (some (.Name x px)) pos) (λY=>(fZ Y i).bind λs=>some (.rt s)):=λB O Y=>(vO (bO hN hv hd hcd)).imp λEn σ H ⟨E,o,q,k⟩=>by
 obtain⟨s,q1,q2⟩:=bind_some q;cases q2;obtain⟨F,h1,h2,h3,h4⟩:=E.fp;obtain⟨v,e,o⟩:=h1 i s (eD q1);exact⟨v,e,k v H (E.ret (eD q1) e)⟩
noncomputable def aj (i:Nat) (g:Ev->Option (Sl×Ev)):Ev->Option Out:=λY=>(g Y).bind λz=>some (.nx (z.2.set i (some z.1)))
theorem tL {K} (h:tS K B O Y (aj i g Y) En σ H):vR (tEv K B O Y (g Y)) (pe i) En σ H:=by
 obtain⟨E,o,q,k⟩:=h;obtain⟨⟨s,Y'⟩,q1,q2⟩:=bind_some q;cases q2;exact⟨E,s,Y',q1,λv H' O' s' E'=>k _ H' O' s' (E'.put i)⟩
theorem DB (hN:X.N.Nodup) (hi:X.N[i]?=some x) (hx:Loc X.env.scope x) (h:PEv X e g) (hf:X.fn x=true\/X.env.scope.names.lookup x=some .local) (hs:swapsWith e (some (.Name x pos')) pos.line X.env=pure false\/(swapsWith e (some (.Name x pos')) pos.line X.env=pure true/\X.env.scope.names.lookup x=some .local)):PR X (.Assign [.Name x pos'] e pos) (aj i g):=λB O Y=>by
 rcases hs with hs|⟨hs,hl⟩
 ·exact(CL hN hi hx (h B O Y).1 hs hf).imp λEn σ H h=>tL h
 ·exact((h B O Y).2 i x pos' pos hN hi hl hs).imp λEn σ H h=>tL h
def nj (f:Vv->Option D):Ev->Option Out:=λY=>(f (vw Y)).bind λ_=>some (.nx Y)
theorem AC (h:PP X e f) (hs:swapsWith e none pos.line X.env=pure false):PR X (.Expr e pos) (nj f):=λB O Y=>(c7 (h noO (vw Y)) hs).imp λEn σ H ⟨E,o,q,k⟩=>by
 obtain⟨d,q1,q2⟩:=bind_some q;cases q2;exact⟨E.view,d,q1,λv H' s' iv=>k σ H' O s'.msk (E.grow s')⟩
noncomputable def ifS (fc:Vv->Option Bool) (F G:Ev->Option Out):Ev->Option Out:=λY=>(fc (vw Y)).bind λc=>if c=true then F Y else G Y
theorem Gx (hc:PQ X c fc) (ha:PRs X a F) (hb:PRs X b G):PR X (.If c a b pos) (ifS fc F G):=λB O Y=>(Fw (hc noO (vw Y)) (ha B O Y) (hb B O Y)).imp λEn σ H ⟨E,o,q,k⟩=>by
 obtain⟨c,q1,q2⟩:=bind_some q;refine⟨E.view,c,q1,λH' s'=>?_⟩;cases c with
 |true=>rw[if_pos rfl]at q2;exact C5 ⟨E.grow s',o,q2,k.mono s'.msk⟩
 |false=>rw[if_neg Bool.false_ne_true]at q2;exact C4 ⟨E.grow s',o,q2,k.mono s'.msk⟩
end
noncomputable def tGE (K:Frag) (B:Bs) (O:Addr->Bool) (Y:Ev) (d:D) (o:Option Ev):TG:=λv σ H Q=>EnvOk K B O σ H Y/\Is K (msk O H) d v/\∃Y',o=some Y'/\∀σ',EnvOk K B O σ' H Y'->Q σ' H
def PGE (X:Cx) (tg:Expr) (g:D->Ev->Option Ev):Prop:=∀B O Y d,PG X tg (tGE X.K B O Y d (g d Y))
noncomputable def Jf (K:Frag) (B:Bs) (O:Addr->Bool) (Y:Ev) (ds:List D) (o:Option Ev):TGs:=λvs σ H Q=>EnvOk K B O σ H Y/\IsL K (msk O H) ds vs/\∃Y',o=some Y'/\∀σ',EnvOk K B O σ' H Y'->Q σ' H
noncomputable def u4 (X:Cx) (ts:List Expr) (g:List D->Ev->Option Ev):Prop:=∀B O Y ds,PGs X ts (Jf X.K B O Y ds (g ds Y))
def eNm (i:Nat):D->Ev->Option Ev:=λd Y=>some (Y.set i (some (.sh,d)))
def wU:List D->Ev->Option Ev:=λds Y=>match ds with|[]=>some Y|_=>none
noncomputable def nk (g:D->Ev->Option Ev) (gs:List D->Ev->Option Ev):List D->Ev->Option Ev:=λds Y=>match ds with|d::r=>(g d Y).bind λY1=>gs r Y1|_=>none
noncomputable def eTp (n:Nat) (gs:List D->Ev->Option Ev):D->Ev->Option Ev:=λd Y=>match d with|.tup ds=>if ds.length=n then gs ds Y else none|_=>none
section
variable {X:Cx} {e tg iter:Expr} {pos:Pos}
theorem AD (hN:X.N.Nodup) (hi:X.N[i]?=some x) (hx:Loc X.env.scope x) (hf:X.fn x=true\/X.env.scope.names.lookup x=some .local):PGE X (.Name x pos) (eNm i):=
 λB O Y d=>(sS hN hi hx hf).imp λv σ H Q ⟨E,iv,Y',e,k⟩=>by
 cases e
 exact k _ (E.setSh iv)
theorem AE:u4 X [] wU:=λB O Y ds=>pgs_nil.imp λvs σ H Q ⟨E,il,Y',e,k⟩=>by
 cases ds with
 |nil=>cases e;exact⟨il,k σ E⟩
 |cons _ _=>cases e
theorem gse_cons (h1:PGE X e g) (h2:u4 X ts gs) (hs:(assignEach (e::ts) X.env).map (·.2)=assign e X.env::(assignEach ts X.env).map (·.2)):u4 X (e::ts) (nk g gs):=λB O Y ds=>by
 cases ds with
 |nil=>exactλpins s σ H vs us Q I r ⟨_,_,Y',e,_⟩=>by cases e
 |cons d r=>
  refine(pf (h1 B O Y d) (PGs.ex λz:Ev=>h2 B O z r) hs).imp λvs σ H Q ⟨E,⟨x,xr,z,ix,il⟩,Y',e,k⟩=>?_;obtain⟨Y1,e1,e2⟩:=bind_some (show(g d Y).bind _=some Y' from e);exact⟨x,xr,z,E,ix,Y1,e1,λσ1 E1=>⟨Y1,E1,il,Y',e2,λσ2 E2=>k σ2 E2⟩⟩
theorem DC (hc:X.calm=true) (h:u4 X ts gs) (hn:(assignEach ts X.env).length=n) (hst:(assignEach ts X.env).findIdx? (·.1)=none):PGE X (.Tuple ts k pos) (eTp n gs):=λB O Y d=>by
 refine(vQ hc (PGs.ex λz:List D=>h B O Y z) hn hst).imp λv σ H Q ⟨E,iv,Y',e,k⟩=>?_;cases d with
 |tup ds=>
  obtain⟨a,xs,rfl,t,il⟩:=iv;have e':(if ds.length=n then gs ds Y else none)=some Y':=e;split at e'
  ·exact⟨a,xs,rfl,msk_le.seqT t,by rw[<-il.len];assumption,ds,E,il,Y',e',k⟩
  ·cases e'
 |_=>cases e
noncomputable def hW (step:D->Ev->Option Out):List D->Ev->Option Out
 |[],Y=>some (.nx Y)
 |d::ds,Y=>(step d Y).bind λo=>match o with
  |.nx Y'=>hW step ds Y'
  |.ct Y'=>hW step ds Y'
  |.bk Y'=>some (.nx Y')
  |.rt v=>some (.rt v)
def mq (g:D->Ev->Option Ev) (F:Ev->Option Out):D->Ev->Option Out:=λd Y=>(g d Y).bind F
noncomputable def u5 (fi:Vv->Option (List D)) (g:D->Ev->Option Ev) (F:Ev->Option Out):Ev->Option Out:=λY=>(fi (shv Y)).bind λds=>hW (mq g F) ds Y
noncomputable def DD (fi:Vv->Option (List D)) (g:D->Ev->Option Ev) (F:Ev->Option Out):Ev->Option Out:=λY=>(fi (vw Y)).bind λds=>hW (mq g F) ds (iL Y)
theorem n9 {K} (E:EnvOk K B O σ H Y) (V:VE K O σ H Yv) (q:(o.bind λds=>hW (mq g F) ds Y)=some out) (k:post K B O H En out):
  FB (tJ K O Yv o) (λv σ H Q=>∃z:(Addr->Bool)×Ev×D,tGE K B z.1 z.2.1 z.2.2 (g z.2.2 z.2.1) v σ H Q) (λEn σ H=>∃z:(Addr->Bool)×Ev,tS K B z.1 z.2 (F z.2) En σ H) En σ H:=by
 obtain⟨ds,q1,q⟩:=bind_some q
 refine⟨V,ds,q1,λJ H1 s1 it=>⟨λi m σ' H'=>i<=ds.length/\m=ds.length-i/\∃O' Y',Same (msk O H1) (msk O' H')/\EnvOk K B O' σ' H' Y'/\hW (mq g F) (ds.drop i) Y'=some out,
  ⟨ds.length,Nat.zero_le _,by simp,O,Y,Same.refl _,E.grow s1,by simpa using q⟩,?_⟩⟩
 rintro i m σ2 H2 ⟨hi,rfl,O2,Y2,s2,E2,e2⟩
 have hit:=it i H2 O2 s2 E2.dom
 by_cases hlt:i<ds.length
 ·refine .inr ?_;have hd:ds[i]?=some ds[i]:=getElem?_eq_getElem hlt;obtain⟨go,yl⟩:=hit.1 _ hd;refine⟨go,λσ' H'=>i+1<=ds.length/\∃O' Y',Same (msk O H1) (msk O' H')/\EnvOk K B O' σ' H' Y'/\hW (mq g F) (ds.drop (i+1)) Y'=some out,λσ' H' ⟨a,b⟩=>⟨ds.length-(i+1),by omega,a,rfl,b⟩,λx H3 hy=>?_⟩;obtain⟨s3,ix⟩:=yl x H3 hy;rw[List.drop_eq_getElem_cons hlt]at e2;obtain⟨o1,e3,e4⟩:=bind_some (show((g ds[i] Y2).bind F).bind _=some out from e2);obtain⟨Y3,g3,f3⟩:=bind_some e3;refine⟨⟨O2,Y2,ds[i]⟩,E2.grow s3,ix,Y3,g3,λσ4 E4=>⟨⟨O2,Y3⟩,E4,o1,f3,?_⟩⟩;have s4:Same (msk O H1) (msk O2 H3):=s2.trans s3.msk;cases o1 with
  |nx Y5=>exactλσ5 H5 O5 s5 E5=>⟨hlt,O5,Y5,s4.trans s5,E5,e4⟩
  |ct Y5=>exactλσ5 H5 O5 s5 E5=>⟨hlt,O5,Y5,s4.trans s5,E5,e4⟩
  |bk Y5=>
   cases e4;exactλσ5 H5 O5 s5 E5=>k σ5 H5 O5 (s1.msk.trans (s4.trans s5)) E5
  |rt d=>
   cases e4;exact k
 ·have hie:i=ds.length:=by omega
  subst hie;rw[List.drop_of_length_le (le_refl _)]at e2;cases e2;exact .inl ⟨hit.2 (le_refl _),k σ2 H2 O2 (s1.msk.trans s2) E2⟩
theorem DE (hp:PassesOwn (model X.prog X.w) X.A X.env X.xe) (hc:X.calm=true) (hi:PJ X tg iter fi) (hg:PGE X tg g) (hb:PRs X body F) (hs:∀x,foldedSetIterable iter X.env x=pure x):PR X (.For tg iter body [] pos) (u5 fi g F):=λB O Y=>
 (qL hp hc (hi O (shv Y)) (PG.ex λz:(Addr->Bool)×Ev×D=>hg B z.1 z.2.1 z.2.2) (PSs.ex λz:(Addr->Bool)×Ev=>hb B z.1 z.2) hs).imp λEn σ H ⟨E,out,q,k⟩=>n9 E E.viewS q k
theorem AF (hp:PassesOwn (model X.prog X.w) X.A X.env X.xe) (hc:X.calm=true) (hi:PJ X tg iter fi) (hg:PGE X tg g) (hb:PRs X body F) (hs:∀x,foldedSetIterable iter X.env x=pure x):PR X (.For tg iter body [] pos) (DD fi g F):=λB O Y=>
 (qL hp hc (hi B.O (vw Y)) (PG.ex λz:(Addr->Bool)×Ev×D=>hg B z.1 z.2.1 z.2.2) (PSs.ex λz:(Addr->Bool)×Ev=>hb B z.1 z.2) hs).imp λEn σ H ⟨E,out,q,k⟩=>n9 E.frozen.1 E.viewF q (k.mono E.frozen.2)
theorem B6 {st} (h1:PR X st F) (h2:PR X st G):PR X st (orO F G):=λB O Y=>(h1 B O Y).by2 (h2 B O Y) λEn σ H ⟨E,out,q,k⟩=>by
 rcases or_some q with q|q
 ·exact .inl ⟨E,out,q,k⟩
 ·exact .inr ⟨E,out,q,k⟩
end
section
variable {K:Frag} {B:Bs} {O:Addr->Bool} {σ:St} {H:Hp} {Y:Ev}
theorem EnvOk.ownAt (E:EnvOk K B O σ H Y) {i:Nat} (h:Y[i]?=some (some (c,.lst ds))) (hc:c≠.sh):
  ∃a xs,σ[i]?=some (some (.ref a))/\H a=some (.lst xs)/\ds.length=xs.length/\O a=true/\B.H a=none:=by
 obtain⟨F,h1,h2,h3,h4⟩:=E.fp
 obtain⟨v,e,o⟩:=h1 i _ h
 cases c with
 |sh=>exact absurd rfl hc
 |top=>
  obtain⟨a,ds',xs,z1,z2,z3,z4,l⟩:=o;cases z1;refine⟨a,xs,by rw[e,z2],z4,l.len,?_⟩;exact h4 i a (by rw[z3];exact mem_cons_self)
 |deep=>
  obtain⟨a,xs,A',z1,z2,z3,l⟩:=o;refine⟨a,xs,by rw[e,z1],z2,DeepL.len l,?_⟩;exact h4 i a (by rw[z3];exact mem_cons_self)
noncomputable def lsW (f:{α:Type}->List α->α->List α):Prop:=∀ {K:Frag} {M H:Hp} {ds:List D} {xs:List V} {A A1:List Addr} {d:D} {v:V},DeepL K M H ds xs A->Deep K M H d v A1->(A++A1).Nodup->
 ∃A',DeepL K M H (f ds d) (f xs v) A'/\A'.Nodup/\∀b∈A',b∈A\/b∈A1
noncomputable def lsI (f:{α:Type}->List α->α->List α):Prop:=∀ {K:Frag} {M:Hp} {ds:List D} {xs:List V} {d:D} {v:V},IsL K M ds xs->Is K M d v->IsL K M (f ds d) (f xs v)
def newCat (c:Cat) (s:Sl):Cat:=if c=.deep/\s.1=.deep then .deep else .top
theorem EnvOk.change (E:EnvOk K B O (σ++[some v]) H (Y++[some s])) (f:{α:Type}->List α->α->List α) (hw:lsW f) (hi:lsI f) {i:Nat} (h:Y[i]?=some (some (c,.lst ds))) (hc:c≠.sh):
  ∃a xs,σ[i]?=some (some (.ref a))/\H a=some (.lst xs)/\ds.length=xs.length/\∃O',EnvOk K B O' σ (upd H a (.lst (f xs v))) (Y.set i (some (newCat c s,.lst (f ds s.2))))/\Same (msk O H) (msk O' (upd H a (.lst (f xs v)))):=by
 obtain⟨F,h1,h2,h3,h4⟩:=E.fp
 have len:σ.length=Y.length:=by have:=E.len;simp at this;exact this
 have hil:i<Y.length:=(List.getElem?_eq_some_iff.mp h).1
 have hin:i≠Y.length:=by omega
 obtain⟨v',e1,o1⟩:=h1 Y.length s (getElem?_last _ _)
 rw[<-len,getElem?_last]at e1
 cases e1
 obtain⟨v0,e0,o0⟩:=h1 i _ (by rw[getElem?_append_left hil];exact h)
 have e0':σ[i]?=some (some v0):=dq (by omega) e0
 -- the list's place
 have at_:∃a xs A',v0=.ref a/\H a=some (.lst xs)/\F i=a::A'/\ds.length=xs.length/\(c=.deep->DeepL K (msk O H) H ds xs A')/\(∀O',Same (msk O H) (msk O' H)->(∀b∈A',O' b=false)->IsL K (msk O' H) ds xs):=by
  cases c with
  |sh=>exact absurd rfl hc
  |top=>
   obtain⟨a,ds',xs,z1,z2,z3,z4,l⟩:=o0;cases z1;exact⟨a,xs,[],z2,z4,z3,l.len,(λz=>by cases z),λO' le _=>IsL.mono le _ _ l⟩
  |deep=>
   obtain⟨a,xs,A',z1,z2,z3,l⟩:=o0;exact⟨a,xs,A',z1,z2,z3,DeepL.len l,λ_=>l,λO' le hA=>DeepL.is (NL.of le) ds xs A' (λb hb o q=>by rw[aG (hA b hb)];exact q) l⟩
 obtain⟨a,xs,A',rfl,ha,hF,hl,hdeep,htop⟩:=at_
 have haF:a∈F i:=by rw[hF];exact mem_cons_self
 obtain⟨haO,haB⟩:=h4 i a haF
 have nd:=h2 i
 rw[hF]at nd
 have haA':a ∉ A':=(List.nodup_cons.mp nd).1
 have hA'F:∀b∈A',b∈F i:=λb hb=>by rw[hF];exact mem_cons_of_mem _ hb
 have han:a ∉ F Y.length:=λz=>hin (h3 _ _ a haF z)
 refine⟨a,xs,e0',ha,hl,?_⟩
 -- the rest of the frame
 have oth:∀ {O':Addr->Bool} {H':Hp},Same (msk O H) (msk O' H')->(∀b,b≠a->H' b=H b)->∀j x,j≠i->Y[j]?=some (some x)->∃w,σ[j]?=some (some w)/\OwnC K O' H' x.1 x.2 w (F j):=λ{O' H'} le hh j x hj hx=>by
  have hjl:=(List.getElem?_eq_some_iff.mp hx).1;obtain⟨w,e2,o2⟩:=h1 j x (by rw[getElem?_append_left hjl];exact hx);refine⟨w,dq (by omega) e2,o2.frame le λb hb o q=>?_⟩;have hba:b≠a:=λz=>hj (h3 j i a (z▸hb) haF);rw[hh b hba];exact q
 by_cases hd:c=.deep/\s.1=.deep
 ·obtain⟨rfl,hs⟩:=hd;obtain⟨sc,sd⟩:=s;cases(show sc=.deep from hs);have o1':Deep K (msk O H) H sd v (F Y.length):=o1;have ndT:(A'++F Y.length).Nodup:=List.nodup_append.mpr ⟨(List.nodup_cons.mp nd).2,h2 _,λx hx y hy z=>by
   subst z;exact hin (h3 i Y.length x (hA'F x hx) hy)⟩
  obtain⟨A2,l2,n2,sub2⟩:=hw (hdeep rfl) o1' ndT;have haA2:a ∉ A2:=λz=>by
   rcases sub2 a z with z|z
   ·exact haA' z
   ·exact han z
  have me:msk O (upd H a (.lst (f xs v)))=msk O H:=gU haO;have le:Same (msk O H) (msk O (upd H a (.lst (f xs v)))):=by rw[me];exact Same.refl _
  have nc:newCat Cat.deep (Cat.deep,sd)=.deep:=by unfold newCat;rw[if_pos ⟨rfl,rfl⟩]
  rw[nc];refine⟨O,⟨λb o z=>?_,E.bdom,E.sub,λb hb=>?_,by simpa using len,λj=>if j=i then a::A2 else if j=Y.length then[]else F j,λj x q=>?_,λj=>?_,λj k b hj hk=>?_,λj b hj=>?_⟩,le⟩
  ·rw[ag (ak z haB)];exact E.same b o z
  ·by_cases hba:b=a
   ·subst hba;exact .inl ⟨_,ah⟩
   ·rw[ag hba];exact E.lis b hb
  ·rcases get_set_some q with⟨e,q'⟩|⟨e,q'⟩
   ·cases q';subst e;refine⟨.ref a,e0',?_⟩;simp only[if_true];refine⟨a,f xs v,A2,rfl,ah,rfl,DeepL.frame (NL.of le) _ _ A2 (λb hb o q=>?_) l2⟩;have hba:b≠a:=λz=>haA2 (by rw[<-z];exact hb);rw[ag hba];exact q
   ·have hj:j≠Y.length:=by have:=(List.getElem?_eq_some_iff.mp q').1;omega
    obtain⟨w,e2,o2⟩:=oth le (λb hb=>ag hb) j x e q';exact⟨w,e2,by simp only[if_neg e,if_neg hj];exact o2⟩
  ·dsimp only;split
   ·exact List.nodup_cons.mpr ⟨haA2,n2⟩
   ·split
    ·exact List.nodup_nil
    ·exact h2 _
  ·have key:∀j b,b∈(if j=i then a::A2 else if j=Y.length then[]else F j)->(j=i/\(b∈F i\/b∈F Y.length))\/(j≠i/\j≠Y.length/\b∈F j):=λj b hb=>by
    by_cases e:j=i
    ·rw[if_pos e]at hb;refine .inl ⟨e,?_⟩;rcases mem_cons.mp hb with rfl|hb
     ·exact .inl haF
     ·rcases sub2 b hb with z|z
      ·exact .inl (hA'F b z)
      ·exact .inr z
    ·rw[if_neg e]at hb;by_cases e2:j=Y.length
     ·rw[if_pos e2]at hb;cases hb
     ·rw[if_neg e2]at hb;exact .inr ⟨e,e2,hb⟩
   rcases key j b hj with⟨p1,p2⟩|⟨p1,p2,p3⟩<;>rcases key k b hk with⟨q1,q2⟩|⟨q1,q2,q3⟩
   ·omega
   ·rcases p2 with p2|p2
    ·exact absurd (h3 _ _ b p2 q3) (by omega)
    ·exact absurd (h3 _ _ b p2 q3) (by omega)
   ·rcases q2 with q2|q2
    ·exact absurd (h3 _ _ b p3 q2) (by omega)
    ·exact absurd (h3 _ _ b p3 q2) (by omega)
   ·exact h3 _ _ b p3 q3
  ·dsimp only at hj;split at hj
   ·rcases mem_cons.mp hj with rfl|hj
    ·exact⟨haO,haB⟩
    ·rcases sub2 b hj with z|z
     ·exact h4 i b (hA'F b z)
     ·exact h4 _ b z
   ·split at hj
    ·cases hj
    ·exact h4 _ b hj
 ·have nc:newCat c s=.top:=by unfold newCat;rw[if_neg hd]
  rw[nc];let O':Addr->Bool:=λb=>O b&&!decide (b∈A')&&!decide (b∈F Y.length);have hO'a:O' a=true:=by simp[O',haO,haA',han]
  have hsub:∀b,O' b=true->O b=true:=λb hb=>by simp[O']at hb;exact hb.1.1
  have hno:∀b∈A',O' b=false:=λb hb=>by simp[O',hb]
  have hno2:∀b∈F Y.length,O' b=false:=λb hb=>by simp[O',hb]
  have le0:Same (msk O H) (msk O' H):=λb o q=>by
   obtain⟨q1,q2⟩:=aF q;rw[aG (by simp[O',q1])];exact q2
  have me:msk O' (upd H a (.lst (f xs v)))=msk O' H:=gU hO'a;have le:Same (msk O H) (msk O' (upd H a (.lst (f xs v)))):=by rw[me];exact le0
  have l3:IsL K (msk O' (upd H a (.lst (f xs v)))) (f ds s.2) (f xs v):=by
   rw[me];exact hi (htop O' le0 hno) (o1.is le0 hno2)
  refine⟨O',⟨λb o z=>?_,E.bdom,λb hb=>?_,λb hb=>?_,by simpa using len,λj=>if j=i then[a]else if j=Y.length then[]else F j,λj x q=>?_,λj=>?_,λj k b hj hk=>?_,λj b hj=>?_⟩,le⟩
  ·rw[ag (ak z haB)];exact E.same b o z
  ·have h5:b ∉ A':=λz=>E.bdom b hb (h4 i b (hA'F b z)).2;have h6:b ∉ F Y.length:=λz=>E.bdom b hb (h4 _ b z).2;simp[O',E.sub b hb,h5,h6]
  ·by_cases hba:b=a
   ·subst hba;exact .inl ⟨_,ah⟩
   ·rw[ag hba];exact E.lis b (hsub b hb)
  ·rcases get_set_some q with⟨e,q'⟩|⟨e,q'⟩
   ·cases q';subst e;refine⟨.ref a,e0',?_⟩;simp only[if_true];exact⟨a,f ds s.2,f xs v,rfl,rfl,rfl,ah,l3⟩
   ·have hj:j≠Y.length:=by have:=(List.getElem?_eq_some_iff.mp q').1;omega
    obtain⟨w,e2,o2⟩:=oth le (λb hb=>ag hb) j x e q';exact⟨w,e2,by simp only[if_neg e,if_neg hj];exact o2⟩
  ·dsimp only;split
   ·simp
   ·split
    ·exact List.nodup_nil
    ·exact h2 _
  ·dsimp only at hj hk;split at hj
   ·split at hk
    ·omega
    ·split at hk
     ·cases hk
     ·rw[mem_singleton.mp hj]at hk;exact absurd (h3 _ _ a haF hk) (by omega)
   ·split at hj
    ·cases hj
    ·split at hk
     ·rw[mem_singleton.mp hk]at hj;exact absurd (h3 _ _ a hj haF) (by omega)
     ·split at hk
      ·cases hk
      ·exact h3 _ _ b hj hk
  ·dsimp only at hj;split at hj
   ·rw[mem_singleton.mp hj];exact⟨hO'a,haB⟩
   ·rename_i hji;split at hj
    ·cases hj
    ·rename_i hjn;refine⟨?_,(h4 _ b hj).2⟩;have h5:b ∉ A':=λz=>hji (h3 _ _ b hj (hA'F b z));have h6:b ∉ F Y.length:=λz=>hjn (h3 _ _ b hj z);simp[O',(h4 _ b hj).1,h5,h6]
end
section
variable {X:Cx} {e tg:Expr} {pos:Pos}
end
def fm {α:Type} (l:List α) (x:α):List α:=l++[x]
theorem rz:lsW fm:=λh q nd=>⟨_,DeepL.snoc q h,nd,λb hb=>mem_append.mp hb⟩
theorem rA:lsI fm:=λh q=>h.app ⟨_,[],rfl,q,rfl⟩
section
variable {X:Cx} {e:Expr} {pos:Pos}
noncomputable def eE (Y:Ev) (i:Nat):Option (Cat×List D):=(fZ Y i).bind λs=>match s with
 |(.sh,_)=>none
 |(c,.lst ds)=>some (c,ds)
 |_=>none
theorem bz (h:eE Y i=some (c,ds)):Y[i]?=some (some (c,.lst ds))/\c≠.sh:=by
 obtain⟨⟨c',d⟩,e,q⟩:=bind_some h;have e':=eD e;cases c' with
 |sh=>cases q
 |top=>cases d<;>first|(cases q;exact⟨e',by intro z;cases z⟩)|cases q
 |deep=>cases d<;>first|(cases q;exact⟨e',by intro z;cases z⟩)|cases q
noncomputable def iM (i:Nat) (g:Ev->Option (Sl×Ev)):Ev->Option Out:=λY=>(eE Y i).bind λ_=>(g Y).bind λz=>(eE z.2 i).bind λw=>if w.2.length+1<big then some (.nx (z.2.set i (some (newCat w.1 z.1,.lst (w.2++[z.1.2])))))else none
theorem u6 (i:Nat) (h:PEv X e g) (hN:X.N[i]?=some x) (hv:Vis X.env.scope x) (hd:(x==("__debug__":Str))=false) (hcd:(x==("__classdict__":Str))=false) (hst:starEach [e] X.env=(false,eval e X.env)::starEach [] X.env) (hline:(apos.endLine==cpos.line)=true):PR X (.Expr (.Call (.Attribute (.Name x px) "append" apos) [e] [] cpos) pos) (iM i g):=λB O Y=>
 (c7 (gP PySem.F.plainAttrs_list PySem.F.slot_list_append PySem.F.type_list_append iH (bO hN hv hd hcd) (bM (h B O Y).1 pa_nil hst) rfl (by rw[hst];rfl) hline hst rfl)).imp λEn σ H ⟨E,o,q,k⟩=>by
 obtain⟨⟨c0,ds0⟩,q1,q⟩:=bind_some q;obtain⟨⟨s,Y'⟩,q2,q⟩:=bind_some q;obtain⟨⟨c,ds⟩,q3,q⟩:=bind_some q;obtain⟨hz,q⟩:=ay q;subst q;obtain⟨h0,hc0⟩:=bz q1;obtain⟨h1,hc1⟩:=bz q3;obtain⟨a,xs0,e1,r3,_⟩:=E.ownAt h0 hc0;refine⟨.ref a,e1,.inl ⟨rfl,_,SqL.of r3⟩,E,s,Y',q2,λv H1 O1 s1 E1=>?_⟩;obtain⟨a',xs,e2,r4,hl,O2,E2,s2⟩:=E1.change fm rz rA h1 hc1;rw[e1]at e2;cases e2;exact⟨a,xs,v,rfl,rfl,r4,by rw[dW,<-hl];exact Nat.lt_of_succ_lt hz,k σ _ O2 (s1.trans s2) E2⟩
end
noncomputable def spC (K:Frag) (f:List D->Option Sl):Sp:=λvs H Q _=>∃O ds s,(∀b,O b=true->Hid (H b))/\IsL K (msk O H) ds vs/\f ds=some s/\∀v H',RetOk K ⟨H,O⟩ H' s v->Q v H'
def az (n:Nat) (ds:List D):Ev:=ds.map (λd=>some (.sh,d))++List.replicate (n-ds.length) none
noncomputable def Gy (o:Option Out):Option Sl:=o.bind λo=>match o with
 |.rt d=>some d
 |.nx _=>some (.deep,.non)
 |_=>none
noncomputable def aQ (n m:Nat) (F:Ev->Option Out) (ds:List D):Option Sl:=if ds.length=n then Gy (F (az m ds))else none
theorem nn (h:aQ n m F ds=some d):ds.length=n/\Gy (F (az m ds))=some d:=by
 unfold aQ at h;split at h
 ·exact⟨by assumption,h⟩
 ·cases h
section
variable {P:Program} {w:World} {K:Frag} {mg:Str->Option Value} {base:Heap}
theorem rB {i:Nat} (q:(az n ds)[i]?=some (some s)):∃d,ds[i]?=some d/\s=(.sh,d):=by
 unfold az at q;by_cases hi:i<ds.length
 ·rw[getElem?_append_left (by simpa using hi),getElem?_map]at q;cases e:ds[i]? with
  |none=>rw[e]at q;cases q
  |some d=>rw[e]at q;cases q;exact⟨d,rfl,rfl⟩
 ·rw[getElem?_append_right (by simpa using hi),List.getElem?_replicate]at q;split at q<;>cases q
theorem pN {O:Addr->Bool} {H:Hp} {N:List Str} {vs:List V} {ds:List D} (hd:∀b,O b=true->Hid (H b)) (il:IsL K (msk O H) ds vs):EnvOk K ⟨H,O⟩ O (eW N vs) H (az N.length ds) where
 same:=Same.refl _
 bdom:=λb h=>(hd b h).ne
 sub:=λ_ h=>h
 lis:=hd
 len:=by
  unfold eW az;rw[length_append,length_append,length_map,length_map,List.length_replicate,List.length_replicate,il.len]
 fp:=by
  refine⟨λ_=>[],λi s q=>?_,λ_=>List.nodup_nil,λ_ _ _ h=>(nomatch h),λ_ _ h=>(nomatch h)⟩;obtain⟨d,e,rfl⟩:=rB q;obtain⟨x,hx,ix⟩:=il.get e;refine⟨x,?_,rfl,ix⟩;have hi:i<vs.length:=(List.getElem?_eq_some_iff.mp hx).1;unfold eW;rw[getElem?_append_left (by rw[length_map];exact hi),getElem?_map,hx];rfl
theorem Gz {st} (Fn:Fun K x qual st f fd) (S:FnScope N ps (am st)) (hb:∀ (cdv:Value) (A:Around) (outer:List Env) (s:Shared) (H:Hp) (E:XK),Room k (A.deeper (envOfC qual (am st) s.heap.objs.size f cdv))->PRs (nM CX0 P w K mg base N qual (am st) f cdv A outer s H E).nox (aJ st) F):
  FnOk P w K mg base CX0 (k+1) f fd ps (spC K (aQ ps.length N.length F)):=by
 refine Fn.ok S (λvs H Q E ⟨O,ds,d,_,il,e,_⟩=>by rw[<-il.len];exact(nn e).1) (λcdv A outer s H vs Q E hr ⟨O,ds,d,hd,il,e,kk⟩=>?_)
 refine⟨_,hb cdv A outer s H E hr ⟨H,O⟩ O (az N.length ds),pN hd il,?_⟩
 obtain⟨o,e1,e2⟩:=bind_some (nn e).2
 refine⟨o,e1,?_⟩
 cases o with
 |rt d'=>cases e2;exact kk
 |nx Y=>cases e2;exactλσ' H' O' s' E'=>kk .non H' ⟨O',[],E'.same,E'.sub,E'.lis,List.nodup_nil,λ_ h=>(nomatch h),rfl,rfl⟩
 |bk Y=>cases e2
 |ct Y=>cases e2
structure Df (P:Program) (w:World) (K:Frag) (mg:Str->Option Value) (base:Heap) (x:Str) (k:Nat) (f:List D->Option Sl):Prop where
 ex:∃ (a:Addr) (fd:FuncData) (ps:List Str),mg x=some (.ref a)/\PySem.W.keepIn K (.ref a)=true/\Binds K fd ps []/\FnOk P w K mg base CX0 k a fd ps (spC K f)
theorem RetOk.is (hd:∀b,O b=true->Hid (H b)) (r:RetOk K ⟨H,O⟩ H' s v):Same H H'/\Is K (msk O H') s.2 v:=by
 obtain⟨O',A,h1,h2,h3,h4,h5,h6⟩:=r;refine⟨h1,h6.is (λb o q=>?_) λa ha=>?_⟩
 ·obtain⟨q1,q2⟩:=aF q;rw[aG ?_];exact q2;cases z:O b with
  |false=>rfl
  |true=>rw[h2 b z]at q1;cases q1
 ·cases z:O a with
  |false=>rfl
  |true=>exact absurd (h5 a ha).2 (hd a z).ne
end
section
variable {X:Cx} {x:Str} {p pos apos:Pos} {e o:Expr} {es:List Expr} {k:Nat} {f:List D->Option Sl} {fa:Vv->Option (List D)}
def gz (o:Option Sl):Option D:=o.bind λs=>some s.2
def pO (o:Option Sl):Option D:=o.bind λs=>match s with
 |(.deep,d)=>some d
 |_=>none
theorem AG (F:Df X.prog X.w X.K X.mg X.base x k f) (hr:Room k X.A) (hg:Gl X x) (ha:PX X (e::es) fa) (hdb:(x==("__debug__":Str))=false) (he:starEach (e::es) X.env=(false,eval e X.env)::starEach es X.env) (hpl:(backTo pos (starEach es X.env)).any (·.1)=false):
  PP X (.Call (.Name x p) (e::es) [] pos) (λY=>(fa Y).bind λds=>gz (f ds)):=λO Y=>by
 obtain⟨a,fd,ps,hm,hk,hb,G⟩:=F.ex
 refine(sY G hr hg hm hk hb .nil wq (ha O Y) hdb he hpl).imp λσ H Q ⟨E,d,q,kk⟩=>?_
 obtain⟨ds,q1,q2⟩:=bind_some q
 obtain⟨s,q3,q4⟩:=bind_some q2
 cases q4
 refine⟨E,ds,q1,λvs H1 s1 il=>?_⟩
 show spC X.K f (vs++[]) H1 Q E0
 rw[List.append_nil]
 refine⟨O,ds,s,(E.grow s1).lis,il,q3,λv H2 r=>?_⟩
 obtain⟨s2,iv⟩:=r.is (E.grow s1).lis
 exact kk v H2 (s1.trans s2) iv
theorem AH (F:Df X.prog X.w X.K X.mg X.base x k f) (hr:Room k X.A) (hg:Gl X x) (ha:PX X (e::es) fa) (hdb:(x==("__debug__":Str))=false) (he:starEach (e::es) X.env=(false,eval e X.env)::starEach es X.env) (hpl:(backTo pos (starEach es X.env)).any (·.1)=false):
  PFr X (.Call (.Name x p) (e::es) [] pos) (λY=>(fa Y).bind λds=>pO (f ds)):=λY=>by
 obtain⟨a,fd,ps,hm,hk,hb,G⟩:=F.ex
 refine PE.pu ((sY G hr hg hm hk hb .nil wq (ha noO Y) hdb he hpl).imp λσ H Q ⟨E,d,q,kk⟩=>?_) rfl
 obtain⟨ds,q1,q2⟩:=bind_some q
 obtain⟨⟨c,d'⟩,q3,q4⟩:=bind_some q2
 cases c with
 |sh=>cases q4
 |top=>cases q4
 |deep=>
  cases q4;refine⟨E,ds,q1,λvs H1 s1 il=>?_⟩;show spC X.K f (vs++[]) H1 Q E0;rw[List.append_nil];refine⟨noO,ds,_,(E.grow s1).lis,il,q3,λv H2 r=>?_⟩;obtain⟨O',A,h1,h2,h3,h4,h5,h6⟩:=r;exact kk v H2 A (s1.trans h1) (Deep.frame (NL.of msk_le) _ v A (λ_ _ _ h=>h) h6) h4 λa ha=>s1.free (h5 a ha).2
end
def og:List Str->Str->Option Nat
 |[],_=>none
 |y::r,x=>if y=x then some 0 else(og r x).map (·+1)
theorem eG:∀ {l:List Str} {x:Str} {i:Nat},og l x=some i->l[i]?=some x
 |[],_,_,h=>by cases h
 |y::r,x,i,h=>by
  unfold og at h;split at h
  ·rename_i e;cases h;simp[e]
  ·cases e:og r x with
   |none=>rw[e]at h;cases h
   |some j=>
    rw[e]at h;cases h;have:=eG e;simpa using this
structure Glob where
 fn:Str->Option (Nat×(List D->Option Sl))
 cn:Str->Option D
 no:Str->Bool
 fl:Str->Str->Bool
structure SE where
 N:List Str
 nm:List (Str×NameKind)
 k:Nat
 G:Glob
structure GOk (P:Program) (w:World) (K:Frag) (mg:Str->Option Value) (base:Heap) (G:Glob):Prop where
 fn:∀x k f,G.fn x=some (k,f)->Df P w K mg base x k f
 cn:∀x d,G.cn x=some d->Cn K mg x d
 no:∀x,G.no x=true->mg x=none
 fl:∀C m Ca,G.fl C m=true->nsIn K mainGlobals C=some (some (.ref Ca))->Cls K Ca/\NoAttr K Ca m
structure SOk (X:Cx) (S:SE):Prop where
 g:GOk X.prog X.w X.K X.mg X.base S.G
 N:X.N=S.N
 nd:S.N.Nodup
 calm:X.calm=true
 room:Room S.k X.A
 loc:∀x,S.nm.lookup x=some .local->X.env.scope.names.lookup x=some .local
 cel:∀x,S.nm.lookup x=some .cell->X.env.scope.names.lookup x=some .cell
 fre:∀x,S.nm.lookup x=some .free->X.env.scope.names.lookup x=some .cell\/X.env.scope.names.lookup x=some .free
 glo:∀x,S.nm.lookup x=some .globalImplicit->X.env.kindOf x=some .globalImplicit
noncomputable def dX (x:Str):Bool:=!(x==("__debug__":Str))&&!(x==("__classdict__":Str))&&!decide (x=("__name__":Str))
def tM:Option NameKind->Bool
 |some .local=>true
 |some .cell=>true
 |some .free=>true
 |_=>false
def slot (S:SE) (x:Str):Option Nat:=if dX x&&tM (S.nm.lookup x)then og S.N x else none
noncomputable def oh (x:Str):Option String:=if x=("int":Str)then some "int"else if x=("bool":Str)then some "bool"else if x=("str":Str)then some "str"else if x=("list":Str)then some "list"else if x=("tuple":Str)then some "tuple"else if x=("dict":Str)then some "dict"else none
theorem rC (h:oh x=some n):bootBuiltins x=some (.type n):=by
 unfold oh at h;split at h
 ·rename_i e;cases h;subst e;decide+kernel
 ·split at h
  ·rename_i e;cases h;subst e;decide+kernel
  ·split at h
   ·rename_i e;cases h;subst e;decide+kernel
   ·split at h
    ·rename_i e;cases h;subst e;decide+kernel
    ·split at h
     ·rename_i e;cases h;subst e;decide+kernel
     ·split at h
      ·rename_i e;cases h;subst e;decide+kernel
      ·cases h
section
variable {X:Cx} {S:SE} {pos:Pos}
theorem dh (h:dX x=true):(x==("__debug__":Str))=false/\(x==("__classdict__":Str))=false/\x≠("__name__":Str):=by
 unfold dX at h;rw[and_eq_true,and_eq_true]at h;refine⟨by simpa using h.1.1,by simpa using h.1.2,?_⟩;have:=h.2;simp at this;exact this
end
section
variable {X:Cx} {e o:Expr} {es:List Expr} {p pos apos:Pos}
noncomputable def rD (fl:Str->Str->Bool) (m:Str):D->Option D
 |.obj C ns ds=>if fl C m then(ns.zip ds).lookup m else none
 |_=>none
theorem kS {K}:∀ {fs:List (Str×V)} {ds:List D},IsL K H ds (fs.map (·.2))->((fs.map (·.1)).zip ds).lookup f=some d->∃v,fs.lookup f=some v/\Is K H d v
 |[],ds,_,e=>by simp at e
 |(n,v)::fs,[],l,e=>by simp at e
 |(n,v)::fs,d'::ds,⟨x,r,z,h,l⟩,e=>by
  have z':v::fs.map (·.2)=x::r:=z;cases z';simp only[List.map_cons,List.zip_cons_cons,List.lookup_cons]at e⊢;cases hf:f==n with
  |true=>rw[hf]at e;cases e;exact⟨v,rfl,h⟩
  |false=>rw[hf]at e;exact kS l e
theorem DF (ho:PP X o fo) (hfl:∀C Ca,fl C m=true->nsIn X.K mainGlobals C=some (some (.ref Ca))->Cls X.K Ca/\NoAttr X.K Ca m) (hbase:attributeBase o m X.env (eval o X.env)=eval o X.env):PP X (.Attribute o m pos) (λY=>(fo Y).bind (rD fl m)):=λO Y=>by
 refine(CV (ho O Y) hbase).imp λσ H Q ⟨E,d,q,k⟩=>?_;obtain⟨dv,q1,q⟩:=bind_some q;refine⟨E,dv,q1,λv H1 s1 iv=>?_⟩;cases dv with
 |obj C ns ds=>
  have q':(if fl C m=true then(ns.zip ds).lookup m else none)=some d:=q;split at q'
  ·rename_i hC;obtain⟨a,Ca,dx,fs,rfl,h0,h1,h2,h3⟩:=iv;subst h2;obtain⟨v',e1,e2⟩:=kS h3 q';obtain⟨c,na⟩:=hfl C Ca hC h0;exact⟨a,Ca,dx,fs,v',rfl,msk_le _ _ h1,c,na,e1,k v' H1 s1 e2⟩
  ·cases q'
 |_=>cases q
structure Mf (P:Program) (w:World) (K:Frag) (mg:Str->Option Value) (base:Heap) (C m:Str) (k:Nat) (f:List D->Option Sl):Prop where
 ex:∃ (Ca fa:Addr) (fd:FuncData) (ps:List Str),nsIn K mainGlobals C=some (some (.ref Ca))/\Cls K Ca/\Meth K Ca m fa/\Binds K fd ps []/\FnOk P w K mg base CX0 k fa fd ps (spC K f)
abbrev MT:=Str->Option (Nat×(List D->Option Sl))
noncomputable def B7 (mt:MT) (k0:Nat) (m:Str) (d:D) (as:List D):Option Sl:=match d with
 |.obj C ns _=>(mt C).bind λz=>if z.1<=k0/\m ∉ ns then z.2 (d::as)else none
 |_=>none
structure Pick (X:Cx) (mt:MT) (k0:Nat) (m:Str) where
 C:Str
 Ca:Addr
 fa:Addr
 fd:FuncData
 ps:List Str
 k:Nat
 f:List D->Option Sl
 h:mt C=some (k,f)/\k<=k0/\nsIn X.K mainGlobals C=some (some (.ref Ca))/\Cls X.K Ca/\Meth X.K Ca m fa/\Binds X.K fd ps []/\FnOk X.prog X.w X.K X.mg X.base CX0 k fa fd ps (spC X.K f)
noncomputable def GA (fo:Vv->Option D) (fa:Vv->Option (List D)) (mt:MT) (k0:Nat) (m:Str):Vv->Option Sl:=λY=>(fo Y).bind λd=>(fa Y).bind λas=>B7 mt k0 m d as
noncomputable def spI (K:Frag) (Ca:Addr) (g:List D->Option (List (Str×D))):Sp:=λvs H Q _=>∃x vs' dx O ds fd,vs=.ref x::vs'/\H x=some (.ins Ca dx [])/\(∀b,O b=true->Hid (H b))/\O x=true/\IsL K (msk O H) ds vs'/\g ds=some fd/\
 ∀H' fs,(∀b o,b≠x->H b=some o->H' b=some o)->H' x=some (.ins Ca dx fs)->fs.map (·.1)=fd.map (·.1)->IsL K (msk O H') (fd.map (·.2)) (fs.map (·.2))->Q .non H'
structure Mkf (P:Program) (w:World) (K:Frag) (mg:Str->Option Value) (base:Heap) (C:Str) (k:Nat) (g:List D->Option (List (Str×D))):Prop where
 ex:∃ (Ca fa:Addr) (fd:FuncData) (ps:List Str),mg C=some (.ref Ca)/\nsIn K mainGlobals C=some (some (.ref Ca))/\Mk K Ca fa/\Binds K fd ps []/\FnOk P w K mg base CX0 k fa fd ps (spI K Ca g)
noncomputable def AI (C:Str) (o:Option (List (Str×D))):Option D:=o.bind λfd=>some (.obj C (fd.map (·.1)) (fd.map (·.2)))
theorem AJ (F:Mkf X.prog X.w X.K X.mg X.base C k g) (hr:Room (k+1) X.A) (hg:Gl X C) (ha:PX X (e::es) fa) (hdb:(C==("__debug__":Str))=false) (he:starEach (e::es) X.env=(false,eval e X.env)::starEach es X.env) (hpl:(backTo pos (starEach es X.env)).any (·.1)=false):
  PP X (.Call (.Name C p) (e::es) [] pos) (λY=>(fa Y).bind λds=>AI C (g ds)):=λO Y=>by
 obtain⟨Ca,f,fd,ps,hm,hns,M,hb,G⟩:=F.ex
 refine(zY M G hr hg hm hb .nil wq (ha O Y) hdb he hpl).imp λσ H Q ⟨E,d,q,kk⟩=>?_
 obtain⟨ds,q1,q2⟩:=bind_some q
 obtain⟨fl,q3,q4⟩:=bind_some q2
 cases q4
 refine⟨E,ds,q1,λvs H1 s1 il x dx hx hdx hne=>?_⟩
 have E1:=E.grow s1
 have hOx:=E1.fresh hx
 have s2:Same H1 (upd (upd H1 dx (.own x)) x (.ins Ca dx [])):=λb o q=>by
  rw[ag (ak q hx),ag (ak q hdx)];exact q
 have le:Same (msk O H1) (msk (λb=>O b||decide (b=x)) (upd (upd H1 dx (.own x)) x (.ins Ca dx []))):=λb o q=>by
  obtain⟨q1,q2⟩:=aF q;have hb:b≠x:=ak q2 hx;rw[aG (by simp[q1,hb])];exact s2 _ _ q2
 show spI X.K Ca g (.ref x::(vs++[])) _ _ E0
 rw[List.append_nil]
 refine⟨x,vs,dx,λb=>O b||decide (b=x),ds,fl,rfl,ah,λb hb=>?_,by simp,IsL.mono le _ _ il,q3,λH' fs keep hx' hns' hl=>⟨rfl,?_⟩⟩
 ·rcases(Bool.or_eq_true _ _).mp hb with hb|hb
  ·exact(E1.lis b hb).same s2
  ·rw[of_decide_eq_true hb,ah];exact .inr (.inl ⟨_,_,_,rfl⟩)
 ·have s3:Same H1 H':=λb o q=>keep b o (ak q hx) (s2 _ _ q);refine kk _ H' (s1.trans s3) ⟨x,Ca,dx,fs,rfl,hns,by rw[aG hOx];exact hx',hns',IsL.mono (λb o q=>?_) _ _ hl⟩;obtain⟨q1,q2⟩:=aF q;have:O b=false:=by
   cases z:O b with
   |false=>rfl
   |true=>simp[z]at q1
  rw[aG this];exact q2
end
section
variable {K:Frag} {B:Bs} {O:Addr->Bool} {σ:St} {H:Hp} {Y:Ev}
theorem EnvOk.thaw (E:EnvOk K B O (σ++[some v]) H (Y++[some s])):∃O',EnvOk K B O' σ H Y/\Same (msk O H) (msk O' H)/\Is K (msk O' H) s.2 v:=by
 obtain⟨F,h1,h2,h3,h4⟩:=E.fp;have len:σ.length=Y.length:=by have:=E.len;simp at this;exact this
 obtain⟨v',e1,o1⟩:=h1 Y.length s (getElem?_last _ _);rw[<-len,getElem?_last]at e1;cases e1;let O':Addr->Bool:=λb=>O b&&!decide (b∈F Y.length);have le:Same (msk O H) (msk O' H):=λb o q=>by
  obtain⟨q1,q2⟩:=aF q;rw[aG (by simp[O',q1])];exact q2
 refine⟨O',⟨E.same,E.bdom,λb hb=>?_,λb hb=>E.lis b (by simp[O']at hb;exact hb.1),len,λj=>if j=Y.length then[]else F j,λj x q=>?_,λj=>?_,λj k a hj hk=>?_,λj a hj=>?_⟩,le,o1.is le λa ha=>by simp[O',ha]⟩
 ·have h6:b ∉ F Y.length:=λz=>E.bdom b hb (h4 _ b z).2;simp[O',E.sub b hb,h6]
 ·have hjl:=(List.getElem?_eq_some_iff.mp q).1;have hj:j≠Y.length:=by omega
  obtain⟨w,e2,o2⟩:=h1 j x (by rw[getElem?_append_left hjl];exact q);exact⟨w,dq (by omega) e2,by simp only[if_neg hj];exact o2.frame le λ_ _ _ h=>h⟩
 ·dsimp only;split
  ·exact List.nodup_nil
  ·exact h2 _
 ·dsimp only at hj hk;split at hj
  ·cases hj
  ·split at hk
   ·cases hk
   ·exact h3 _ _ a hj hk
 ·dsimp only at hj;split at hj
  ·cases hj
  ·rename_i hjn;have h6:a ∉ F Y.length:=λz=>hjn (h3 _ _ a hj z);exact⟨by simp[O',(h4 _ a hj).1,h6],(h4 _ a hj).2⟩
theorem EnvOk.store (E:EnvOk K B O σ H Y) (hx:B.O x=true) (hb:B.H x=some (.ins Ca dx fs)):EnvOk K ⟨upd B.H x (.ins Ca dx fs'),B.O⟩ O σ (upd H x (.ins Ca dx fs')) Y/\msk O (upd H x (.ins Ca dx fs'))=msk O H:=by
 have me:msk O (upd H x (.ins Ca dx fs'))=msk O H:=gU (E.sub x hx);obtain⟨F,h1,h2,h3,h4⟩:=E.fp;have no:∀i,x ∉ F i:=λi z=>by have:=(h4 i x z).2;rw[hb]at this;cases this
 refine⟨⟨λb o q=>?_,λb q=>?_,E.sub,λb q=>?_,E.len,F,λi s q=>?_,h2,h3,λi a ha=>⟨(h4 i a ha).1,?_⟩⟩,me⟩
 ·have q':upd B.H x (.ins Ca dx fs') b=some o:=q;by_cases h:b=x
  ·subst h;rw[ah]at q'⊢;exact q'
  ·rw[ag h]at q'⊢;exact E.same b o q'
 ·by_cases h:b=x
  ·subst h;show upd B.H b _ b≠none;rw[ah];simp
  ·show upd B.H x _ b≠none;rw[ag h];exact E.bdom b q
 ·by_cases h:b=x
  ·subst h;rw[ah];exact .inr (.inl ⟨_,_,_,rfl⟩)
  ·rw[ag h];exact E.lis b q
 ·obtain⟨v,e,o⟩:=h1 i s q;refine⟨v,e,o.frame (by rw[me];exact Same.refl _) λa ha u hu=>?_⟩;have:a≠x:=λz=>no i (z▸ha);rw[ag this];exact hu
 ·have:a≠x:=λz=>no i (z▸ha);show upd B.H x _ a=none;rw[ag this];exact(h4 i a ha).2
end
noncomputable def pP (f:Str) (d:D):List (Str×D)->List (Str×D)
 |[]=>[(f,d)]
 |(g,e)::r=>if g=f then(g,d)::r else(g,e)::pP f d r
theorem tN {K} (h:Is K M d v):∀ {fd:List (Str×D)} {fs:List (Str×V)},fs.map (·.1)=fd.map (·.1)->IsL K M (fd.map (·.2)) (fs.map (·.2))->
  (dS f v fs).map (·.1)=(pP f d fd).map (·.1)/\IsL K M ((pP f d fd).map (·.2)) ((dS f v fs).map (·.2))
 |[],[],_,_=>⟨rfl,v,[],rfl,h,rfl⟩
 |[],_::_,e,_=>by simp at e
 |_::_,[],e,_=>by simp at e
 |(g,c)::fd,(g',u)::fs,e,⟨x,r,z,q,l⟩=>by
  have e1:g'=g:=by simp at e;exact e.1
  have e2:fs.map (·.1)=fd.map (·.1):=by simp at e;simpa using e.2
  subst e1;have z':u::fs.map (·.2)=x::r:=z;cases z';unfold dS pP;by_cases hg:g'=f
  ·rw[if_pos hg,if_pos hg];exact⟨by simp[e2],v,_,rfl,h,l⟩
  ·rw[if_neg hg,if_neg hg];obtain⟨a,b⟩:=tN h e2 l;exact⟨by simp[a],u,_,rfl,q,b⟩
abbrev InF:=Ev->List (Str×D)->Option (List (Str×D))
noncomputable def tIn (K:Frag) (Ca:Addr) (B:Bs) (O:Addr->Bool) (Y:Ev) (x dx:Addr) (fd:List (Str×D)) (o:Option (List (Str×D))):TS:=λEn σ H=>EnvOk K B O σ H Y/\B.O x=true/\
 (∃fs,B.H x=some (.ins Ca dx fs)/\fs.map (·.1)=fd.map (·.1)/\IsL K (msk O H) (fd.map (·.2)) (fs.map (·.2)))/\∃fd',o=some fd'/\
 ∀σ' H' O' fs',(∀b o,b≠x->B.H b=some o->H' b=some o)->(∀b,B.O b=true->O' b=true)->H' x=some (.ins Ca dx fs')->fs'.map (·.1)=fd'.map (·.1)->IsL K (msk O' H') (fd'.map (·.2)) (fs'.map (·.2))->En.nx σ' H'
noncomputable def PIn (X:Cx) (Ca x:Addr) (st:List Stmt) (I:InF):Prop:=∀B O Y dx fd,PSs X st (tIn X.K Ca B O Y x dx fd (I Y fd))
def AK:InF:=λ_ fs=>some fs
noncomputable def stI (F:Ev->Option Out) (G:InF):InF:=λY fs=>(F Y).bind λo=>match o with
 |.nx Y'=>G Y' fs
 |_=>none
noncomputable def AL (x:Addr) (i:Nat) (f:Str) (g:Ev->Option (Sl×Ev)) (G:InF):InF:=λY fs=>(g Y).bind λz=>match fZ z.2 i with
 |some (.sh,.adr a)=>if a=x/\fs.length<900 then G z.2 (pP f z.1.2 fs)else none
 |_=>none
section
variable {X:Cx} {Ca x:Addr} {st:Stmt} {rest:List Stmt} {e:Expr} {pos:Pos}
theorem DG:PIn X Ca x [] AK:=λB O Y dx fd=>pss_nil.imp λEn σ H ⟨E,hx,⟨fs,h1,h2,h3⟩,fd',q,k⟩=>by
 cases q;exact k σ H O fs (λb o _ h=>E.same b o h) E.sub (E.same x _ h1) h2 h3
theorem AM (h1:PR X st F) (h2:PIn X Ca x rest G):PIn X Ca x (st::rest) (stI F G):=λB O Y dx fd=>
 (kg (h1 B O Y) (PSs.ex λz:(Addr->Bool)×Ev=>h2 B z.1 z.2 dx fd)).imp λEn σ H ⟨E,hx,⟨fs,a1,a2,a3⟩,fd',q,k⟩=>by
 obtain⟨o1,q1,q2⟩:=bind_some q;refine⟨E,o1,q1,?_⟩;cases o1 with
 |nx Y'=>exactλσ' H' O' s' E'=>⟨⟨O',Y'⟩,E',hx,⟨fs,a1,a2,IsL.mono s' _ _ a3⟩,fd',q2,k⟩
 |rt d=>cases q2
 |bk Y'=>cases q2
 |ct Y'=>cases q2
theorem DH (i:Nat) (hv:PEv X e g) (h2:PIn X Ca x rest G) (hN:X.N[i]?=some self) (hvis:Vis X.env.scope self) (hd:(self==("__debug__":Str))=false) (hcd:(self==("__classdict__":Str))=false) (hs:swapsWith e (some (.Attribute (.Name self px) f pos')) pos.line X.env=pure false) (c:Cls X.K Ca) (na:NoAttr X.K Ca f):PIn X Ca x (.Assign [.Attribute (.Name self px) f pos'] e pos::rest) (AL x i f g G):=λB O Y dx fd=>
 (kg (CW (bO hN hvis hd hcd) (hv B O Y).1 hs) (PSs.ex λz:Bs×(Addr->Bool)×Ev×List (Str×D)=>h2 z.1 z.2.1 z.2.2.1 dx z.2.2.2)).imp λEn σ H ⟨E,hx,⟨fs,a1,a2,a3⟩,fd',q,k⟩=>by
 obtain⟨⟨s,Y'⟩,q1,q⟩:=bind_some q;refine⟨E,s,Y',q1,λy H1 O1 s1 E1=>?_⟩;obtain⟨O2,E2,s2,iy⟩:=E1.thaw;have q':(match fZ Y' i with|some (.sh,.adr a)=>if a=x/\fd.length<900 then G Y' (pP f s.2 fd)else none|_=>none)=some fd':=q;split at q'
 ·rename_i a ha;split at q'
  ·rename_i hc;obtain⟨rfl,hl⟩:=hc;obtain⟨F,f1,_⟩:=E2.fp;obtain⟨w,ew,ow⟩:=f1 i _ (eD ha);cases(show w=.ref a from ow.2);have hb:=E2.same a _ a1;have hlen:fs.length=fd.length:=by have:=congrArg List.length a2;simpa using this
   refine⟨.ref a,ew,a,Ca,dx,fs,rfl,hb,c,na,by omega,?_⟩;obtain⟨E3,me⟩:=E2.store (fs':=dS f y fs) hx a1;have a3':=IsL.mono (s1.trans s2) _ _ a3;obtain⟨b1,b2⟩:=tN (f:=f) iy a2 a3';refine⟨⟨⟨upd B.H a (.ins Ca dx (dS f y fs)),B.O⟩,O2,Y',pP f s.2 fd⟩,E3,hx,⟨_,ah,b1,by rw[me];exact b2⟩,fd',q',λσ' H' O' fs' k1 k2 k3 k4 k5=>k σ' H' O' fs' (λb o hb h=>k1 b o hb (by show upd B.H a _ b=some o;rw[ag hb];exact h)) k2 k3 k4 k5⟩
  ·cases q'
 ·cases q'
end
def rE (n:Nat) (x:Addr) (ds:List D):Ev:=az n (.adr x::ds)
noncomputable def wV (n m:Nat) (I:Addr->InF) (x:Addr) (ds:List D):Option (List (Str×D)):=if ds.length+1=n then I x (rE m x ds) []else none
theorem Jg {K} {st} (Fn:Fun K x qual st f fd) (S:FnScope N ps (am st)) (hg:∀ds r,g ds=some r->∀y,wV ps.length N.length I y ds=some r) (hb:∀ (y:Addr) (cdv:Value) (A:Around) (outer:List Env) (s:Shared) (H:Hp) (E:XK),Room k (A.deeper (envOfC qual (am st) s.heap.objs.size f cdv))->PIn (nM CX0 P w K mg base N qual (am st) f cdv A outer s H E).nox Ca y (aJ st) (I y)):
  FnOk P w K mg base CX0 (k+1) f fd ps (spI K Ca g):=by
 refine Fn.ok S (λvs H Q E ⟨y,vs',dx,O,ds,r,e1,_,_,_,il,e,_⟩=>?_) (λcdv A outer s H vs Q E hr ⟨y,vs',dx,O,ds,r,e1,hy,hO,hOy,il,e,kk⟩=>?_)
 ·have:=hg ds r e 0;unfold wV at this;split at this
  ·rename_i h;rw[e1,length_cons,<-il.len];exact h
  ·cases this
 ·have q:=hg ds r e y;unfold wV at q;split at q
  ·subst e1;have il':IsL K (msk O H) (.adr y::ds) (.ref y::vs'):=⟨_,_,rfl,rfl,il⟩;refine⟨_,hb y cdv A outer s H E hr ⟨H,O⟩ O (az N.length (.adr y::ds)) dx [],pN hO il',hOy,⟨[],hy,rfl,rfl⟩,r,q,λσ' H' O' fs' k1 k2 k3 k4 k5=>?_⟩;refine kk H' fs' k1 k3 k4 (IsL.mono (λb o z=>?_) _ _ k5);obtain⟨z1,z2⟩:=aF z;rw[aG ?_];exact z2;cases zz:O b with
   |false=>rfl
   |true=>rw[k2 b zz]at z1;cases z1
  ·cases q
structure NSt (b:Bool) (z j l:Addr) (k:Nat) (h:Heap):Prop where
 ne:z≠j
 hz:∃old,IsEnum h z j k old
 h1:ItK b h j l k
section
variable {prog:Program} {w:World} {A:Around} {E:Value->Shared->Prop} {s:Shared}
theorem wW {k:Nat} {Q:Value->Shared->Prop} (Z:IsEnum s.heap z j k old) (J:ItK b s.heap j l k) (C:CoK b s.heap l xs) (hx:xs[k]?=some x) (ne:z≠j) (hQ:∀g,IsEnumOut g z j ((k:Int)+1) x s.heap.objs.size->ItK b g j l (k+1)->g.get? s.heap.objs.size=some {cls:=.type "tuple",data:=.seq #[.int k s.toks,x]}->g.objs.size=s.heap.objs.size+1->
   (∀d o,d≠z->d≠j->s.heap.get? d=some o->g.get? d=some o)->Q (.ref s.heap.objs.size) {s with heap:=g,toks:=s.toks+1}):
  wpAny (model prog w) A (Builtin.«enumerate.__next__» ⟨[.ref z],[]⟩) (λfin s'=>∃v,fin=.done (.ret v)/\Q v s') E s:=by
 cases s with
 |mk hp gn dr tk os=>
 show wpAny _ _ (field (.ref z) 2>>=_) _ _ _
 refine wpAny_bind (wpAny_field Z rfl (x:=.ref j) rfl (wpAny_bind (Gp J C hx λg1 J1 s1=>?_)))
 replace s1:Heap.SameBut j hp g1:=s1
 have Z1:IsEnum g1 z j k old:=(s1.2 z ne).trans Z
 show wpAny _ _ (field (.ref z) 3>>=_) _ _ ⟨g1,gn,dr,tk,os⟩
 refine wpAny_bind (wpAny_field Z1 rfl (x:=rawInt k) rfl ?_)
 show wpAny _ _ (field (.ref z) 4>>=_) _ _ ⟨g1,gn,dr,tk,os⟩
 refine wpAny_bind (wpAny_field Z1 rfl (x:=.none) rfl ?_)
 show wpAny _ _ (mkInt k>>=_) _ _ ⟨g1,gn,dr,tk,os⟩
 refine wpAny_bind (wpAny_mkInt ?_)
 show wpAny _ _ (setField (.ref z) 3 (rawInt ((k:Int)+1))>>=_) _ _ ⟨g1,gn,dr,tk+1,os⟩
 refine wpAny_bind (wpAny_setField_rec Z1 (by simp) λg2 Z2 s2=>?_)
 replace s2:Heap.SameBut z g1 g2:=s2
 replace Z2:IsEnum g2 z j ((k:Int)+1) old:=Z2
 show wpAny _ _ (setField (.ref z) 4 .none>>=_) _ _ ⟨g2,gn,dr,tk+1,os⟩
 refine wpAny_bind (wpAny_setField_rec Z2 (by simp) λg3 Z3 s3=>?_)
 replace s3:Heap.SameBut z g2 g3:=s3
 replace Z3:IsEnum g3 z j ((k:Int)+1) old:=Z3
 show wpAny _ _ (newTuple [.int k tk,x]>>=_) _ _ ⟨g3,gn,dr,tk+1,os⟩
 refine wpAny_bind (wpAny_newTuple ?_)
 have Z4:IsEnum (g3.push {cls:=.type "tuple",data:=.seq #[.int k tk,x]}) z j ((k:Int)+1) old:=Heap.get?_push_of_some _ Z3
 have sz:g3.objs.size=hp.objs.size:=by rw[s3.1,s2.1,s1.1]
 have zl:z<hp.objs.size:=Heap.lt_size Z
 have T4:(g3.push {cls:=.type "tuple",data:=.seq #[.int k tk,x]}).get? hp.objs.size=some {cls:=.type "tuple",data:=.seq #[.int k tk,x]}:=by rw[<-sz];exact Heap.get?_push_size _ rfl
 have z4:(g3.push {cls:=.type "tuple",data:=.seq #[.int k tk,x]}).objs.size=hp.objs.size+1:=by rw[Heap.size_push,sz]
 have k4:∀d o,d≠z->d≠j->hp.get? d=some o->(g3.push {cls:=.type "tuple",data:=.seq #[.int k tk,x]}).get? d=some o:=λd o n1 n2 e=>
  Heap.get?_push_of_some _ (s3.extBut d o n1 (s2.extBut d o n1 (s1.extBut d o n2 e)))
 have J4:ItK b (g3.push {cls:=.type "tuple",data:=.seq #[.int k tk,x]}) j l (k+1):=((J1.ext s2 ne.symm).ext s3 ne.symm).at λo e=>Heap.get?_push_of_some _ e
 generalize g3.push {cls:=.type "tuple",data:=.seq #[.int k tk,x]}=g4 at Z4 T4 z4 k4 J4
 show wpAny _ _ (Builtin.SmallTypes.ownedTupleIsFree (.ref z)>>=_) _ _ ⟨g4,gn,dr,tk+1,os⟩
 rw[sz]
 refine wpAny_bind ?_
 unfold Builtin.SmallTypes.ownedTupleIsFree
 refine wpAny_bind (wpAny_field Z4 rfl (x:=.none) rfl (wpAny_pure ?_))
 simp only[if_true]
 refine wpAny_bind (wpAny_rule (wpAny_bind (wpAny_field Z4 rfl (x:=old) rfl (wpAny_bind (wpAny_setField_rec Z4 (by simp) λg5 Z5 s5=>?_)))))
 replace s5:Heap.SameBut z g4 g5:=s5
 replace Z5:IsEnum g5 z j ((k:Int)+1) x:=Z5
 show wpAny _ _ (Builtin.SmallTypes.ownedTupleHandOut (.ref z) (.ref hp.objs.size)>>=_) _ _ ⟨g5,gn,dr,tk+1,os⟩
 refine wpAny_bind ?_
 unfold Builtin.SmallTypes.ownedTupleHandOut
 refine wpAny_bind (wpAny_setField_rec Z5 (by simp) λg6 Z6 s6=>?_)
 replace s6:Heap.SameBut z g5 g6:=s6
 replace Z6:IsEnumOut g6 z j ((k:Int)+1) x hp.objs.size:=Z6
 refine wpAny_setField_rec Z6 (by simp) λg7 Z7 s7=>?_
 replace s7:Heap.SameBut z g6 g7:=s7
 replace Z7:IsEnumOut g7 z j ((k:Int)+1) x hp.objs.size:=Z7
 have up:∀d o,d≠z->g4.get? d=some o->g7.get? d=some o:=λd o n e=>s7.extBut d o n (s6.extBut d o n (s5.extBut d o n e))
 exact wpAny_bind (wpAny_letGo (wpAny_pure ⟨_,rfl,hQ g7 Z7 (J4.at λo e=>up _ o ne.symm e) (up _ _ (Nat.ne_of_gt zl) T4) (by rw[s7.1,s6.1,s5.1,z4]) λd o n1 n2 e=>up d o n1 (k4 d o n1 n2 e)⟩))
theorem wX (Z:NSt b z j l k s.heap) (C:CoK b s.heap l xs) (hx:xs[k]?=some x) (hQ:∀g,IsEnumOut g z j ((k:Int)+1) x s.heap.objs.size->ItK b g j l (k+1)->g.get? s.heap.objs.size=some {cls:=.type "tuple",data:=.seq #[.int k s.toks,x]}->g.objs.size=s.heap.objs.size+1->
   (∀d o,d≠z->d≠j->s.heap.get? d=some o->g.get? d=some o)->Q (some (.ref s.heap.objs.size)) {s with heap:=g,toks:=s.toks+1}):wpAny (model prog w) A (pyNext (.ref z)) Q E s:=by
 obtain⟨ne,⟨old,hz⟩,h1⟩:=Z
 have T:s.TypeIs (.ref z) "enumerate":=⟨_,hz,rfl⟩
 unfold pyNext
 exact wpAny_bind (wpAny_attempt (wpAny_callSpecial?_slot (name:=Str.ofString "__next__") T F.slot_enumerate_next (wpAny_call_entry F.slot_enumerate_next T F.entry_enumerate_next
  (wW hz h1 C hx ne λg a c d e f=>wpAny_pure (hQ g a c d e f)) (F.args_enumerate_next_1 _))))
theorem wY (hh:A.handled=none) (Z:NSt b z j l k s.heap) (C:CoK b s.heap l xs) (hx:xs[k]?=none) (hQ:∀g,Heap.ExtBut j s.heap g->Q none {s with heap:=g}):wpAny (model prog w) A (pyNext (.ref z)) Q E s:=by
 obtain⟨ne,⟨old,hz⟩,h1⟩:=Z;have T:s.TypeIs (.ref z) "enumerate":=⟨_,hz,rfl⟩;unfold pyNext;refine wpAny_bind (wpAny_attempt (wpAny_callSpecial?_slot (name:=Str.ofString "__next__") T F.slot_enumerate_next (wpAny_call_entry F.slot_enumerate_next T F.entry_enumerate_next ?_ (F.args_enumerate_next_1 _))));show wpAny _ _ (field (.ref z) 2>>=_) _ _ _;refine wpAny_bind (wpAny_field hz rfl (x:=.ref j) rfl (wpAny_bind (uX hh h1 C hx λg e q he=>?_)));obtain⟨o,ho,hc⟩:=he;exact wpAny_bind (wpAny_isInstance (T:="StopIteration") (b:=true) ⟨o,ho,hc⟩ isSubtype_stop (wpAny_pure (hQ _ q)))
noncomputable abbrev nG (h:Heap) (b:Bool) (l:Addr):Heap:=(h.push (kQ b l)).push {cls:=.type "enumerate",data:=.fields #[.none,.bool false,.ref h.objs.size,rawInt 0,.none,.none]}
theorem AN (b:Bool) (l:Addr) (xs:Array Value):Meets (Builtin.«enumerate.__new__» ⟨[.type "enumerate",.ref l],[]⟩) (λ_ R s=>CoK b s.heap l xs/\
   R (.ok (.ret (.ref (s.heap.push (kQ b l)).objs.size))) {s with heap:=nG s.heap b l}):=
 .of_wp λprog w A R s h=>by
  cases s with
  |mk hp gn dr tk os=>
  obtain⟨c0,h⟩:=h;have hsub:=sub_enumerate;have C:CoK b (Shared.heap ⟨hp,gn,dr,tk,os⟩) l xs:=c0;wp_walk using wJ C;refine wpAny_stack_any λst=>wpAny_pure ?_;split
  ·rename_i c _ _ _ _ _;cases(c==Value.type "enumerate")<;>(wp_walk using wJ C;exact⟨_,rfl,h⟩)
  ·wp_walk using wJ C;exact⟨_,rfl,h⟩
theorem wZ (C:CoK b s.heap l xs) (h:∀g,NSt b (s.heap.objs.size+1) s.heap.objs.size l 0 g->g.objs.size=s.heap.objs.size+2->(∀d o,s.heap.get? d=some o->g.get? d=some o)->Q (.ref (s.heap.objs.size+1)) {s with heap:=g}):
  wpAny (model prog w) A (call (.type "enumerate") [.ref l]) Q E s:=by
 refine callType_new F.called_enumerate (by decide) (F.typeCall_enumerate_1 _) (F.newCall_enumerate_1 _) (λobj=>F.args_object_init_2 obj _) F.entry_enumerate_new (AN b l xs) ⟨C,?_⟩
 have z1:(s.heap.push (kQ b l)).objs.size=s.heap.objs.size+1:=Heap.size_push ..
 have g2:IsEnum (nG s.heap b l) (s.heap.objs.size+1) s.heap.objs.size 0 .none:=by
  have:=Heap.get?_push_size (s.heap.push (kQ b l)) (o:={cls:=.type "enumerate",data:=.fields #[.none,.bool false,.ref s.heap.objs.size,rawInt 0,.none,.none]}) rfl;rw[z1]at this;exact this
 have fb:(kQ b l).isFreed=false:=by cases b<;>rfl
 have g1:(nG s.heap b l).get? s.heap.objs.size=some (kQ b l):=Heap.get?_push_of_some _ (Heap.get?_push_size _ fb)
 have i1:ItK b (nG s.heap b l) s.heap.objs.size l 0:=by cases b<;>exact⟨_,g1,rfl,rfl⟩
 show _/\_
 rw[z1]
 exact⟨⟨_,g2,rfl⟩,h _ ⟨Nat.succ_ne_self _,⟨_,g2⟩,i1⟩ (by rw[Heap.size_push,z1]) λd o x=>Heap.get?_push_of_some _ (Heap.get?_push_of_some _ x)⟩
end
noncomputable def Itn (K:Frag) (b:Bool) (l:Addr):It:=
 ⟨λi H=>∃xs x,SqK b K H l xs/\xs[i]?=some x,
  λi H v H'=>∃p x,v=.ref p/\H p=none/\H'=upd H p (.tup [.int i,x])/\∀xs,SqK b K H l xs->xs[i]?=some x,
  λi H=>∃xs,SqK b K H l xs/\xs.length<=i⟩
theorem NSt.live (Z:NSt b z j l k h) (hd:d∈[z,j]):∃o,h.get? d=some o/\∀v,o.data≠.cell v:=by
 simp at hd;rcases hd with rfl|rfl
 ·obtain⟨old,e⟩:=Z.hz;exact⟨_,e,λv q=>by cases q⟩
 ·obtain⟨o,n,vs,e,_,dd,_⟩:=Z.h1.live;exact⟨o,e,λv q=>by rw[dd]at q;cases q⟩
theorem w5 {P:Program} {w:World} {K:Frag} {elts:List Expr} {x1:Nat} {tpos:Pos} (b:Bool) (l z j:Addr):
  Turn P w K (.Tuple elts x1 tpos) (Itn K b l) [z,j] z (λi h=>NSt b z j l i h) where
 mem:=by simp
 obj:=λi h Z d hd=>Z.live hd
 keep:=λi h h' Z k=>by
  obtain⟨old,e⟩:=Z.hz;exact⟨Z.ne,⟨old,k z (by simp) _ e⟩,Z.h1.at λo q=>k j (by simp) o q⟩
 item:=by
  intro X hP hw hK hc i pins s σ H E I hf Z hg;subst hP hw hK;obtain⟨xs,x,hx,ex⟩:=hg;obtain⟨its,rv,p1,_⟩:=I.coK hx;obtain⟨u,hu,ru⟩:=rv.get ex;refine wX Z p1 (x:=u) (by simpa using hu) λh' Z' J' T' sz k'=>⟨_,rfl,?_⟩;refine wpAny_letOwnedTupleGo_enum Z' λh2 hz2 sb=>?_;obtain⟨old,hz⟩:=Z.hz;have zlt:z<s.heap.objs.size:=Heap.lt_size hz;have Z2:NSt b z j l (i+1) h2:=⟨Z.ne,⟨_,by rw[show((i+1:Nat):Int)=(i:Int)+1 from rfl];exact hz2⟩,J'.at λo q=>sb.extBut _ _ Z.ne.symm q⟩;have T2:=sb.extBut _ _ (Nat.ne_of_gt zlt) T';have kk:∀d o,d ∉ [z,j]->s.heap.get? d=some o->h2.get? d=some o:=λd o hd e=>by
   simp at hd;exact sb.extBut _ _ hd.1 (k' d o hd.1 hd.2 e)
  have fr:H s.heap.objs.size=none:=I.hok.fresh (le_refl _);refine⟨.ref s.heap.objs.size,_,I.turnedNew (t':=s.toks+1) (p:=s.heap.objs.size) (o:=.tup [.int i,x]) hf kk (le_refl _) ?_,rfl,⟨s.heap.objs.size,x,rfl,fr,rfl,λzs hzs=>by rw[I.coK_inj hzs hx];exact ex⟩,Z2,λd hd=>?_⟩
  ·exact⟨by show 2<=sizeLine;decide,[.int i s.toks,u],.cons ⟨_,rfl⟩ (.cons ru .nil),⟨_,T2,rfl,_,rfl⟩⟩
  ·obtain⟨o,eo,_⟩:=Z.live hd;rw[ag (Nat.ne_of_lt (Heap.lt_size eo))];exact(hf d hd).1
 done:=by
  intro X hP hw hK hc i pins s σ H E I hf Z hg;subst hP hw hK;obtain⟨xs,hx,hl⟩:=hg;obtain⟨its,rv,p1,_⟩:=I.coK hx;have e1:=rv.length;refine wY (I.ok.hd hc) Z p1 (by simp;omega) λh' k'=>⟨rfl,I.turnedL (t':=s.toks) hf λd o hd e=>?_⟩;simp at hd;exact k' d o hd.2 e
 self:=λ_ _ _ _ _ Z h=>by
  obtain⟨old,e⟩:=Z.hz;exact wpAny_pyIter_enum e h
section
variable {X:Cx} {tg a b e:Expr} {es:List Expr} {p pos:Pos}
theorem DI:bootBuiltins "enumerate"=some (.type "enumerate"):=by decide+kernel
noncomputable def Jh (K:Frag) (ta:TA):TI:=λσ H R=>ta σ H λvs H1=>∃b l xs,vs=[.ref l]/\SqK b K H1 l xs/\R (Itn K b l) H1
theorem DJ {x1} (hg:Gl X "enumerate") (hm:X.mg "enumerate"=none) (ha:PA X [a] ta) (hs:starEach [a] X.env=[(false,eval a X.env)]):
  PI X (.Tuple elts x1 tpos) (.Call (.Name "enumerate" p) [a] [] pos) (Jh X.K ta):=by
 intro pins s σ H R I h
 refine Call_ (gp I hg hm DI (PyProof.Rows.callWith_type1 (thn (ha pos pins s σ H _ I h) λus s1 ⟨vs,H1,I1,r1,q1⟩=>?_) (by rw[hs];rfl) (by rfl)))
 obtain⟨b,l,xs,e,hx,q⟩:=q1
 subst e
 obtain⟨u,rfl,ru⟩:=f6 r1
 cases ru
 obtain⟨its,rx,p1,_⟩:=I1.coK hx
 refine wZ p1 λh' Z sz k=>?_
 obtain⟨old,hz⟩:=Z.hz
 refine wpAny_pyIter_enum hz ?_
 have I2:Inv X pins σ H1 {s1 with heap:=h'}:=I1.kept (t':=s1.toks) k
 refine⟨s1.heap.objs.size+1,[s1.heap.objs.size+1,s1.heap.objs.size],_,_,H1,rfl,I2,w5 b l _ _,Z,λd hd=>?_,q⟩
 have hge:s1.heap.objs.size<=d:=by
  simp at hd;rcases hd with rfl|rfl<;>first|exact Nat.le_add_right _ _|exact le_refl _
 exact I1.fpOk hge (I1.hok.fresh hge)
def kT (xs:List D):List D:=xs.zipIdx.map λp=>.tup [.int (p.2:Nat),p.1]
theorem w6 {K} {b} (hx:SqK b K Hm l xs) (il:IsL K Hm ds xs):ng K Hm (Itn K b l) (kT ds):=λi H O s hd=>by
 have hx':=hx.mono (s.trans msk_le);refine⟨λd hi=>?_,λhi=>⟨xs,hx',?_⟩⟩
 ·unfold kT at hi;rw[getElem?_map,List.getElem?_zipIdx]at hi;cases e:ds[i]? with
  |none=>rw[e]at hi;cases hi
  |some d1=>
   rw[e]at hi;cases hi;obtain⟨x,ex,ix⟩:=il.get e;refine⟨⟨xs,x,hx',ex⟩,?_⟩;rintro v H3 ⟨q,x',rfl,hq,rfl,kx⟩;have z1:=kx xs hx';rw[ex]at z1;cases z1;have hO:=gW hd hq;refine⟨Same.new hq,q,[.int i,x],rfl,.of (by rw[aG hO,ah]),?_⟩;have le:Same (msk O H) (msk O (upd H q (.tup [.int i,x]))):=(Same.new hq).msk;exact⟨.int i,[x],rfl,by show V.int _=V.int _;simp,x,[],rfl,Is.mono (s.trans le) _ _ ix,rfl⟩
 ·have h1:=il.len;unfold kT at hi;rw[length_map,List.length_zipIdx]at hi;omega
def tO:List D->Option (List D):=un1 λc=>(seqD c).bind λxs=>some (kT xs)
theorem DK {x1} (hg:Gl X "enumerate") (hm:X.mg "enumerate"=none) (ha:PX X [a] fa) (hs:starEach [a] X.env=[(false,eval a X.env)]):
  PJ X (.Tuple elts x1 tpos) (.Call (.Name "enumerate" p) [a] [] pos) (λY=>(fa Y).bind tO):=λO Y=>(DJ hg hm (ha O Y) hs).imp λσ H R ⟨E,ds,q,k⟩=>by
 obtain⟨as,e1,q⟩:=bind_some q
 refine⟨E,as,e1,λvs H1 s1 il=>?_⟩
 obtain⟨c,rfl,q1⟩:=bu q
 obtain⟨xs,q2,q3⟩:=bind_some q1
 cases q3
 obtain⟨u,rfl,iu⟩:=is1 il
 obtain⟨l1,us,rfl,t1,m1⟩:=gY q2 iu
 obtain⟨b1,t1⟩:=Dq t1
 exact⟨b1,l1,us,rfl,t1.mono msk_le,k _ H1 s1 (w6 t1 m1)⟩
end
section
variable {X:Cx} {a b:Expr} {pos:Pos}
noncomputable def GB (K:Frag):R2:=λx y H Q=>∃l m xs zs,x=.ref l/\y=.ref m/\SqL K H l xs/\SqL K H m zs/\xs.length+zs.length<=sizeLine/\∀p,H p=none->Q (.ref p) (upd H p (.lst (xs++zs)))
theorem AO:OpR X (binaryOp .Add) (GB X.K):=by
 intro pins s σ H x y v u Q I rx ry h;obtain⟨l,m,xs,zs,rfl,rfl,h1,h2,hz,q⟩:=h;cases rx;cases ry;obtain⟨its,r1,⟨⟨c1,d1,t1,s1⟩,n1,e1,k1,_,w1⟩,_⟩:=I.list h1;obtain⟨jts,r2,⟨⟨c2,d2,t2,s2⟩,n2,e2,k2,_,w2⟩,_⟩:=I.list h2;simp only at k1 w1 k2 w2;subst k1 w1 k2 w2;have hl1:=r1.length;have hl2:=r2.length;refine concat_meets ⟨_,e1,rfl⟩ ⟨_,e2,rfl⟩ noFill_list_add seq_list_add PySem.F.slot_list_add PySem.F.entry_list_add (PySem.F.args_list_add_2 _ _) (list_addW l m its.toArray jts.toArray n1 n2 d1 d2 s1 s2 (by rw[size_toArray,size_toArray];omega)) ⟨e1,e2,?_⟩;rw[show its.toArray++jts.toArray=(its++jts).toArray by simp];exact⟨.ref _,_,I.lnew (t':=s.toks) (r1.append r2) (by rw[length_append];omega),rfl,q _ I.fresh⟩
def Ji (d e:D):Option (List D):=(eV d).bind λxs=>(eV e).bind λys=>bJ (some (xs++ys))
def pQ (fa fb:Vv->Option D):Vv->Option (List D):=λY=>(fa Y).bind λx=>(fb Y).bind λy=>Ji x y
theorem DL (ha:PP X a fa) (hb:PP X b fb):PF X (.BinOp a .Add b pos) (pQ fa fb):=λO Y=>(BU AO (ha O Y) (hb O Y)).imp λσ H Q ⟨E,ds,q,k⟩=>by
 obtain⟨dx,e1,q⟩:=bind_some q;obtain⟨dy,e2,q⟩:=bind_some q;obtain⟨xs,f1,q⟩:=bind_some q;obtain⟨ys,f2,q⟩:=bind_some q;obtain⟨g1,g2⟩:=cm q;cases g1;refine⟨E,dx,e1,λx H1 s1 i1=>⟨E.grow s1,dy,e2,λy H2 s2 i2=>?_⟩⟩;obtain⟨l,us,rfl,t1,l1⟩:=cH f1 (Is.mono s2.msk dx x i1);obtain⟨m,ws,rfl,t2,l2⟩:=cH f2 i2;refine⟨l,m,us,ws,rfl,rfl,msk_le.seq t1,msk_le.seq t2,?_,λp hp=>k p _ H2 (s1.trans s2) hp (l1.app l2)⟩;rw[length_append]at g2;rw[<-l1.len,<-l2.len];exact Nat.le_of_lt g2
end
section
variable {prog:Program} {w:World} {A:Around} {E:Value->Shared->Prop} {s:Shared}
end
section
variable {X:Cx} {a:Expr} {p p2 pos pos2:Pos}
theorem GC:bootBuiltins "list"=some (.type "list"):=by decide+kernel
def revD:List D->Option (List D):=un1 λd=>(eV d).bind λds=>some ds.reverse
end
theorem u7 (l:Addr) (xs:Array Value) (n:Nat) (m:Addr) (ys:Array Value) (k:Nat) (dd:Option Addr) (sl:Array (Option Value)) (hc0:¬(!xs.isEmpty&&Builtin.List.listTooLong (xs.size+ys.size))=true) (hc1:xs.size<=sizeLine) (hs2:xs.size+ys.size<=sizeLine+1):
  Meets (Builtin.«list.extend» ⟨[.ref l,.ref m],[]⟩) (λ_ R s=>s.heap.get? l=some {cls:=.type "list",dict:=none,data:=.seq xs n,slots:=#[]}/\s.heap.get? m=some {cls:=.type "list",dict:=dd,data:=.seq ys k,slots:=sl}/\R (.ok (.ret Value.none)) {s with heap:=s.heap.update l (Obj.mapSeq λx=>x++ys),toks:=s.toks}):=
 .of_wp λprog w A R s h=>by
  obtain⟨hp,g,d,tk,os⟩:=s;obtain⟨hl,hb,h⟩:=h;have f1:=AutoSeq1.idx_int;have f2:=AutoSeq1.sub_tuple_tuple;have f3:=AutoSeq1.sub_list_list;have f4:=AutoSeq1.sub_tuple_list;have f5:=AutoSeq1.sub_list_tuple;have hz':(xs++ys).size<=sizeLine+1:=by rw[Array.size_append];exact hs2
  wp_walk using (wpAny_updateSeq hl rfl (hz:=hc1) (_hz':=hz')),AutoSeq1.wpAny_loadPart' hl,AutoSeq1.wpAny_loadPart' hb;exact⟨_,rfl,h⟩
noncomputable def GD (K:Frag):V->List V->Hp->VK->Prop:=λx vs H Q=>∃l m xs zs,x=.ref l/\vs=[.ref m]/\H l=some (.lst xs)/\SqL K H m zs/\xs.length+zs.length<=sizeLine/\Q .non (upd H l (.lst (xs++zs)))
theorem tR:MtM X "list.extend" (GD X.K):=by
 intro pins s σ H x vs v us Q I rx rv h;obtain⟨l,m,xs,zs,rfl,rfl,hH,hB,hz,q⟩:=h;cases rx;obtain⟨u,rfl,ru⟩:=rv.one;cases ru;obtain⟨z,its,n,r,hl,e⟩:=I.lstM hH;obtain⟨jts,r2,⟨⟨c2,d2,t2,s2⟩,n2,e2,k2,_,w2⟩,_⟩:=I.list hB;simp only at k2 w2;subst k2 w2;have hl2:=r2.length;have hsz:its.toArray.size+jts.toArray.size<=sizeLine:=by rw[size_toArray,size_toArray];omega
 have hlong:¬ (!its.toArray.isEmpty&&Builtin.List.listTooLong (its.toArray.size+jts.toArray.size))=true:=by
  rw[wm hsz,Bool.and_false];exact Bool.false_ne_true
 refine call_meets F.slot_list_extend ⟨_,e,rfl⟩ F.entry_list_extend (F.args_list_extend_2 _ _) (u7 l its.toArray n m jts.toArray n2 d2 s2 hlong (by rw[size_toArray];omega) (by omega)) ⟨e,e2,?_⟩;refine⟨.non,_,I.lset (its':=its++jts) hH e (by simp) (r.append r2) ?_,rfl,q⟩;rw[length_append];omega
def extS (d:D):Sl:=if lfD d then(.deep,d)else(.sh,d)
def extC:Cat->List D->Cat
 |c,[]=>c
 |c,d::ds=>extC (newCat c (extS d)) ds
section
variable {K:Frag} {B:Bs}
theorem EnvOk.moreS (E:EnvOk K B O σ H Y) (h:Is K (msk O H) d v):EnvOk K B O (σ++[some v]) H (Y++[some (extS d)]):=by
 unfold extS;split
 ·rename_i f;exact E.more (c:=.deep) (A:=[]) (O':=O) (Same.refl _) (Same.refl _) (λ_ h=>.inl h) (λ_ h=>h) (λ_ h=>(nomatch h)) (λ_ h=>(nomatch h)) List.nodup_nil (λ_ h=>(nomatch h)) (Is.deep d v f h)
 ·exact E.moreSh h
theorem u8 (c:Cat) (s:Sl):newCat c s≠.sh:=by unfold newCat;split<;>intro z<;>cases z
theorem xa (h:H a=some o):upd H a o=H:=by
 funext b;by_cases e:b=a
 ·subst e;rw[ah,h]
 ·rw[ag e]
theorem EnvOk.extend {i:Nat}:∀ {es:List D} {zs:List V} {O:Addr->Bool} {H:Hp} {Y:Ev} {c:Cat} {ds:List D},EnvOk K B O σ H Y->Y[i]?=some (some (c,.lst ds))->c≠.sh->IsL K (msk O H) es zs->
  ∃a xs,σ[i]?=some (some (.ref a))/\H a=some (.lst xs)/\ds.length=xs.length/\∃O',EnvOk K B O' σ (upd H a (.lst (xs++zs))) (Y.set i (some (extC c es,.lst (ds++es))))/\Same (msk O H) (msk O' (upd H a (.lst (xs++zs))))
 |[],zs,O,H,Y,c,ds,E,h,hc,l=>by
  have l':zs=[]:=l;subst l';obtain⟨a,xs,e1,e2,e3,_⟩:=E.ownAt h hc;refine⟨a,xs,e1,e2,e3,O,?_,?_⟩
  ·rw[List.append_nil,List.append_nil,xa e2];show EnvOk K B O σ H (Y.set i (some (c,.lst ds)));rw[show Y.set i (some (c,D.lst ds))=Y from by
    obtain⟨hi,e⟩:=List.getElem?_eq_some_iff.mp h;rw[<-e];exact List.set_getElem_self hi]
   exact E
  ·rw[List.append_nil,xa e2];exact Same.refl _
 |d::es,zs,O,H,Y,c,ds,E,h,hc,l=>by
  obtain⟨z,r,rfl,hz,l⟩:=l;obtain⟨a,xs,e1,e2,e3,O1,E1,s1⟩:=(E.moreS hz).change fm rz rA h hc;have hi:=(List.getElem?_eq_some_iff.mp h).1;have h2:(Y.set i (some (newCat c (extS d),.lst (fm ds (extS d).2))))[i]?=some (some (newCat c (extS d),.lst (fm ds (extS d).2))):=by rw[List.getElem?_set_self hi]
  obtain⟨a',xs',f1,f2,f3,O2,E2,s2⟩:=EnvOk.extend E1 h2 (u8 _ _) (IsL.mono s1 _ _ l);rw[e1]at f1;cases f1;rw[ah]at f2;cases f2;rw[zN]at E2 s2;rw[List.set_set]at E2;have ed:(extS d).2=d:=by unfold extS;split<;>rfl
  rw[ed]at E2;unfold fm at E2 s1 s2;rw[List.append_assoc,List.append_assoc]at E2;rw[List.append_assoc]at s2;exact⟨a,xs,e1,e2,e3,O2,E2,s1.trans s2⟩
end
section
variable {X:Cx} {e:Expr} {pos:Pos}
noncomputable def extA (i:Nat) (R:Vv->Option D):Ev->Option Out:=λY=>(eE Y i).bind λw=>(R (shv Y)).bind λd=>(eV d).bind λes=>if w.2.length+es.length<big then some (.nx (Y.set i (some (extC w.1 es,.lst (w.2++es)))))else none
theorem rF (i:Nat) (h:PP X e R) (hN:X.N[i]?=some x) (hv:Vis X.env.scope x) (hd:(x==("__debug__":Str))=false) (hcd:(x==("__classdict__":Str))=false) (hst:starEach [e] X.env=(false,eval e X.env)::starEach [] X.env) (hline:(apos.endLine==cpos.line)=true):PR X (.Expr (.Call (.Attribute (.Name x px) "extend" apos) [e] [] cpos) pos) (extA i R):=λB O Y=>
 (c7 (gP PySem.F.plainAttrs_list PySem.F.slot_list_extend PySem.F.type_list_extend tR (bO hN hv hd hcd) (bM (h O (shv Y)) pa_nil hst) rfl (by rw[hst];rfl) hline hst rfl)).imp λEn σ H ⟨E,o,q,k⟩=>by
 obtain⟨⟨c,ds⟩,q1,q⟩:=bind_some q;obtain⟨d,q2,q⟩:=bind_some q;obtain⟨es,q3,q⟩:=bind_some q;obtain⟨hz,q⟩:=ay q;subst q;obtain⟨h0,hc0⟩:=bz q1;obtain⟨a,xs0,e1,r3,_⟩:=E.ownAt h0 hc0;refine⟨.ref a,e1,.inl ⟨rfl,_,SqL.of r3⟩,E.viewS,d,q2,λv H1 s1 i1=>?_⟩;obtain⟨m,zs,rfl,t,l⟩:=cH q3 i1;obtain⟨a',xs,e2,r4,hl,O2,E2,s2⟩:=(E.grow s1).extend h0 hc0 l;rw[e1]at e2;cases e2;exact⟨a,m,xs,zs,rfl,rfl,r4,msk_le.seq t,by rw[<-hl,<-l.len,dW];exact Nat.le_of_lt hz,k σ _ O2 (s1.msk.trans s2) E2⟩
noncomputable def GE (i:Nat) (R:Vv->Option D):Ev->Option Out:=λY=>(eE Y i).bind λw=>(R (vw Y)).bind λd=>(eV d).bind λes=>if w.2.length+es.length<big/\lfL es=true then some (.nx (Y.set i (some (extC w.1 es,.lst (w.2++es)))))else none
theorem rG (i:Nat) (h:PP X e R) (hN:X.N[i]?=some x) (hv:Vis X.env.scope x) (hd:(x==("__debug__":Str))=false) (hcd:(x==("__classdict__":Str))=false) (hst:starEach [e] X.env=(false,eval e X.env)::starEach [] X.env) (hline:(apos.endLine==cpos.line)=true):PR X (.Expr (.Call (.Attribute (.Name x px) "extend" apos) [e] [] cpos) pos) (GE i R):=λB O Y=>
 (c7 (gP PySem.F.plainAttrs_list PySem.F.slot_list_extend PySem.F.type_list_extend tR (bO hN hv hd hcd) (bM (h noO (vw Y)) pa_nil hst) rfl (by rw[hst];rfl) hline hst rfl)).imp λEn σ H ⟨E,o,q,k⟩=>by
 obtain⟨⟨c,ds⟩,q1,q⟩:=bind_some q;obtain⟨d,q2,q⟩:=bind_some q;obtain⟨es,q3,q⟩:=bind_some q;obtain⟨⟨hz,lf⟩,q⟩:=ay q;subst q;obtain⟨h0,hc0⟩:=bz q1;obtain⟨a,xs0,e1,r3,_⟩:=E.ownAt h0 hc0;refine⟨.ref a,e1,.inl ⟨rfl,_,SqL.of r3⟩,E.view,d,q2,λv H1 s1 i1=>?_⟩;obtain⟨m,zs,rfl,t,l⟩:=cH q3 i1;obtain⟨a',xs,e2,r4,hl,O2,E2,s2⟩:=(E.grow s1).extend h0 hc0 (IsL.nl (E.grow s1).nl _ _ lf l.full);rw[e1]at e2;cases e2;exact⟨a,m,xs,zs,rfl,rfl,r4,msk_le.seq t,by rw[<-hl,<-l.len,dW];exact Nat.le_of_lt hz,k σ _ O2 (s1.msk.trans s2) E2⟩
def xb (i:Nat) (R:Vv->Option D):Ev->Option Out:=orO (extA i R) (GE i R)
theorem u9 (i:Nat) (h:PP X e R) (hN:X.N[i]?=some x) (hv:Vis X.env.scope x) (hd:(x==("__debug__":Str))=false) (hcd:(x==("__classdict__":Str))=false) (hst:starEach [e] X.env=(false,eval e X.env)::starEach [] X.env) (hline:(apos.endLine==cpos.line)=true):PR X (.Expr (.Call (.Attribute (.Name x px) "extend" apos) [e] [] cpos) pos) (xb i R):=
 B6 (rF i h hN hv hd hcd hst hline) (rG i h hN hv hd hcd hst hline)
end
def shO:Option Sl->Option Sl
 |some (_,d)=>some (.sh,d)
 |none=>none
def frz1 (i:Nat) (Y:Ev):Ev:=match Y[i]? with
 |some x=>Y.set i (shO x)
 |none=>Y
def frzS:List Nat->Ev->Ev
 |[],Y=>Y
 |i::is,Y=>frzS is (frz1 i Y)
section
variable {K:Frag} {B:Bs} {O:Addr->Bool} {σ:St} {H:Hp} {Y:Ev}
theorem EnvOk.frz1 (E:EnvOk K B O σ H Y) (i:Nat):∃O',EnvOk K B O' σ H (frz1 i Y)/\Same (msk O H) (msk O' H):=by
 unfold L2.frz1;cases hx:Y[i]? with
 |none=>exact⟨O,E,Same.refl _⟩
 |some x=>
  obtain⟨F,h1,h2,h3,h4⟩:=E.fp;have le:Same (msk O H) (msk (λb=>O b&&!decide (b∈F i)) H):=λb o q=>by
   obtain⟨q1,q2⟩:=aF q;rw[aG (by simp[q1])];exact q2
  refine⟨λb=>O b&&!decide (b∈F i),⟨E.same,E.bdom,λb hb=>?_,λb hb=>E.lis b (by simp at hb;exact hb.1),by rw[List.length_set];exact E.len,λj=>if j=i then[]else F j,λj s q=>?_,λj=>?_,λj k a hj hk=>?_,λj a hj=>?_⟩,le⟩
  ·have n:b ∉ F i:=λz=>E.bdom b hb (h4 i b z).2;simp[E.sub b hb,n]
  ·rcases get_set_some q with⟨e,q'⟩|⟨e,q'⟩
   ·subst e;cases x with
    |none=>cases q'
    |some z=>
     obtain⟨c,d⟩:=z;cases q';obtain⟨v,e1,o1⟩:=h1 j _ hx;refine⟨v,e1,?_⟩;simp only[if_true];exact⟨rfl,o1.is le λa ha=>by simp[ha]⟩
   ·obtain⟨v,e1,o1⟩:=h1 j s q';refine⟨v,e1,?_⟩;simp only[if_neg e];exact o1.frame le λ_ _ _ z=>z
  ·dsimp only;split
   ·exact List.nodup_nil
   ·exact h2 _
  ·by_cases e:j=i
   ·simp[e]at hj
   ·by_cases e2:k=i
    ·simp[e2]at hk
    ·simp only[if_neg e]at hj;simp only[if_neg e2]at hk;exact h3 j k a hj hk
  ·by_cases e:j=i
   ·simp[e]at hj
   ·simp only[if_neg e]at hj;obtain⟨o1,o2⟩:=h4 j a hj;have n:a ∉ F i:=λz=>e (h3 j i a hj z);exact⟨by simp[o1,n],o2⟩
theorem EnvOk.frzS:∀ (is:List Nat) {O:Addr->Bool} {Y:Ev},EnvOk K B O σ H Y->∃O',EnvOk K B O' σ H (frzS is Y)/\Same (msk O H) (msk O' H)
 |[],O,Y,E=>⟨O,E,Same.refl _⟩
 |i::is,O,Y,E=>by
  obtain⟨O1,E1,s1⟩:=E.frz1 i;obtain⟨O2,E2,s2⟩:=EnvOk.frzS is E1;exact⟨O2,E2,s1.trans s2⟩
end
noncomputable def lsX (f:{α:Type}->List α->α->List α):Prop:=∀ {K:Frag} {M H:Hp} {ds:List D} {xs:List V} {A:List Addr} {d:D} {v:V},DeepL K M H ds xs A->Deep K M H d v []->DeepL K M H (f ds d) (f xs v) A
theorem xc:lsX fm:=λ{K M H ds xs A d v} h q=>by
 have:=DeepL.snoc q h;rw[List.append_nil]at this;exact this
theorem DeepL.sub {K} (f:{α:Type}->List α->α->List α) (hf:lsX f) (lf:lfD d=true) (hi:Is K M d v):∀ {ds:List D} {xs:List V} {A:List Addr} {j:Nat},DeepL K M H ds xs A->A.Nodup->ds[j]?=some (.lst ds2)->
  ∃a ys,xs[j]?=some (.ref a)/\a∈A/\H a=some (.lst ys)/\ds2.length=ys.length/\DeepL K M (upd H a (.lst (f ys v))) (ds.set j (.lst (f ds2 d))) xs A
 |[],xs,A,j,h,nd,e=>by simp at e
 |d0::ds,xs,A,0,⟨x,r,A1,A2,e1,e2,h1,h2⟩,nd,e=>by
  simp at e;subst e;obtain⟨a,ys,A',z1,z2,z3,l⟩:=h1;subst z1 e1 e2 z3;have n1:a ∉ A'/\a ∉ A2:=by
   have:=(List.nodup_cons.mp (show(a::(A'++A2)).Nodup from nd)).1;simp at this;exact this
  have fr:∀ (L:List Addr),a ∉ L->∀b∈L,∀o,H b=some o->upd H a (.lst (f ys v)) b=some o:=λL n b hb o q=>by rw[ag (show b≠a fromλz=>n (z▸hb))];exact q
  refine⟨a,ys,rfl,by simp,z2,DeepL.len l,_,_,a::A',A2,rfl,rfl,⟨a,f ys v,A',rfl,ah,rfl,?_⟩,DeepL.frame (NL.of (Same.refl _)) _ _ _ (fr A2 n1.2) h2⟩;exact hf (DeepL.frame (NL.of (Same.refl _)) _ _ _ (fr A' n1.1) l) (Is.deep d v lf hi)
 |d0::ds,xs,A,j+1,⟨x,r,A1,A2,e1,e2,h1,h2⟩,nd,e=>by
  subst e1 e2;obtain⟨n1,n2,n3⟩:=List.nodup_append.mp nd;obtain⟨a,ys,f1,f2,f3,f4,f5⟩:=DeepL.sub f hf lf hi h2 n2 (show ds[j]?=some (.lst ds2)by simpa using e);have na:a ∉ A1:=λz=>n3 a z a f2 rfl;refine⟨a,ys,by simpa using f1,mem_append_right _ f2,f3,f4,x,r,A1,A2,rfl,rfl,Deep.frame (NL.of (Same.refl _)) _ _ _ (λb hb o q=>?_) h1,f5⟩;rw[ag (show b≠a fromλz=>na (z▸hb))];exact q
section
variable {K:Frag} {B:Bs} {O:Addr->Bool} {σ:St} {H:Hp} {Y:Ev}
theorem EnvOk.changeIn (E:EnvOk K B O σ H Y) (f:{α:Type}->List α->α->List α) (hf:lsX f) {i j:Nat} (h:Y[i]?=some (some (.deep,.lst ds))) (hj:ds[j]?=some (.lst ds2)) (lf:lfD d=true) (hi:Is K (msk O H) d v):
  ∃a xs a2 ys,σ[i]?=some (some (.ref a))/\H a=some (.lst xs)/\ds.length=xs.length/\xs[j]?=some (.ref a2)/\H a2=some (.lst ys)/\ds2.length=ys.length/\
   EnvOk K B O σ (upd H a2 (.lst (f ys v))) (Y.set i (some (.deep,.lst (ds.set j (.lst (f ds2 d))))))/\Same (msk O H) (msk O (upd H a2 (.lst (f ys v)))):=by
 obtain⟨F,h1,h2,h3,h4⟩:=E.fp
 obtain⟨v0,e0,o0⟩:=h1 i _ h
 obtain⟨a,xs,A',z1,z2,z3,l⟩:=o0
 subst z1
 have nd:=h2 i
 rw[z3]at nd
 obtain⟨nA,ndA⟩:=List.nodup_cons.mp nd
 obtain⟨a2,ys,f1,f2,f3,f4,f5⟩:=DeepL.sub f hf lf hi l ndA hj
 have ha2:a2∈F i:=by rw[z3];exact mem_cons_of_mem _ f2
 obtain⟨o2,b2⟩:=h4 i a2 ha2
 have me:msk O (upd H a2 (.lst (f ys v)))=msk O H:=gU o2
 have le:Same (msk O H) (msk O (upd H a2 (.lst (f ys v)))):=by rw[me];exact Same.refl _
 have ne:a≠a2:=λz=>nA (z▸f2)
 refine⟨a,xs,a2,ys,e0,z2,DeepL.len l,f1,f3,f4,⟨λb o q=>?_,E.bdom,E.sub,λb hb=>?_,by rw[List.length_set];exact E.len,F,λk s q=>?_,h2,h3,h4⟩,le⟩
 ·rw[ag (ak q b2)];exact E.same b o q
 ·by_cases e:b=a2
  ·subst e;exact .inl ⟨_,ah⟩
  ·rw[ag e];exact E.lis b hb
 ·rcases get_set_some q with⟨e,q'⟩|⟨e,q'⟩
  ·cases q';subst e;refine⟨.ref a,e0,a,xs,A',rfl,by rw[ag ne];exact z2,z3,?_⟩;rw[me];exact f5
  ·obtain⟨w,e1,o1⟩:=h1 k s q';refine⟨w,e1,o1.frame le λb hb o z=>?_⟩;have:b≠a2:=λz2=>e (h3 k i a2 (z2▸hb) ha2);rw[ag this];exact z
end
section
variable {X:Cx} {e:Expr} {pos:Pos}
def f8 (Y:Ev) (i:Nat):Option (List D):=(eE Y i).bind λw=>if w.1=.deep then some w.2 else none
noncomputable def vb (i:Nat) (fk:Vv->Option D) (R:Vv->Option D):Ev->Option Out:=λY=>(f8 Y i).bind λds=>(fk (vw Y)).bind λy=>(intD y).bind λk=>(ixN ds.length k).bind λj=>(ds[j]?).bind λz=>(eV z).bind λds2=>
 (lfO (R (shv Y))).bind λd=>if ds2.length+1<big then some (.nx (Y.set i (some (.deep,.lst (ds.set j (.lst (ds2++[d])))))))else none
theorem lstD_some (h:eV d=some ds):d=.lst ds:=by
 cases d<;>first|(cases h;rfl)|cases h
theorem DM (i:Nat) (hk:PP X ik fk) (h:PP X e R) (hN:X.N[i]?=some x) (hv:Vis X.env.scope x) (hd:(x==("__debug__":Str))=false) (hcd:(x==("__classdict__":Str))=false) (hix:jY ik) (hst:starEach [e] X.env=(false,eval e X.env)::starEach [] X.env) (hline:(apos.endLine==cpos.line)=true):
  PR X (.Expr (.Call (.Attribute (.Subscript (.Name x px) ik spos) "append" apos) [e] [] cpos) pos) (vb i fk R):=λB O Y=>
 (c7 (gP PySem.F.plainAttrs_list PySem.F.slot_list_append PySem.F.type_list_append iH (BY ix_list (bO hN hv hd hcd) (hk noO (vw Y)) hix) (bM (h O (shv Y)) pa_nil hst) rfl (by rw[hst];rfl) hline hst rfl)).imp λEn σ H ⟨E,o,q,k⟩=>by
 obtain⟨ds,q1,q⟩:=bind_some q
 obtain⟨y,q2,q⟩:=bind_some q
 obtain⟨n,q3,q⟩:=bind_some q
 obtain⟨j,q4,q⟩:=bind_some q
 obtain⟨z,q5,q⟩:=bind_some q
 obtain⟨ds2,q6,q⟩:=bind_some q
 obtain⟨d,q7,q⟩:=bind_some q
 obtain⟨hz,q⟩:=ay q
 subst q
 obtain⟨⟨c,ds'⟩,p1,p2⟩:=bind_some q1
 obtain⟨p3,p4⟩:=ay p2
 have p3:c=.deep:=p3
 have p4:ds'=ds:=p4
 subst p3 p4
 obtain⟨h0,hc0⟩:=bz p1
 cases intD_some q3
 cases lstD_some q6
 obtain⟨d',p5,p6⟩:=bind_some q7
 obtain⟨lf,p7⟩:=ay p6
 subst p7
 obtain⟨a,xs0,e1,r3,hl0,oa,_⟩:=E.ownAt h0 hc0
 refine⟨.ref a,e1,E.view,_,q2,λyv H1 s1 iy=>?_⟩
 cases(show yv=.int n from iy)
 have E1:=E.grow s1
 obtain⟨a',xs,a2,ys,g1,g2,g3,g4,g5,g6,_⟩:=E1.changeIn fm xc (d:=.non) (v:=.non) h0 q5 rfl rfl
 rw[e1]at g1
 cases g1
 refine⟨a,xs,n,.ref a2,rfl,rfl,SqL.of g2,?_,.inl ⟨rfl,_,SqL.of g5⟩,E1.viewS,d',p5,λv H2 s2 iv=>?_⟩
 ·unfold atI;rw[<-g3,q4];exact g4
 obtain⟨b',zs,b2,ws,k1,k2,k3,k4,k5,k6,k7,k8⟩:=(E1.grow s2).changeIn fm xc h0 q5 lf iv;rw[e1]at k1;cases k1;have w1:=s2 _ _ g2;rw[w1]at k2;cases k2;rw[g4]at k4;cases k4;exact⟨a2,ws,v,rfl,rfl,k5,by rw[dW,<-k6];exact Nat.lt_of_succ_lt hz,k σ _ O (s1.msk.trans (s2.msk.trans k8)) k7⟩
end
theorem DN:PFr X (.Dict [] [] pos) (λ_=>some (.dct [] [])):=λY=>PE.pu (pe_dnewK.imp λσ H Q ⟨E,d,q,k⟩=>by
 cases q;exactλp hp=>k (.ref p) _ [p] (Same.new hp) ⟨p,[],[],rfl,ah,rfl,rfl,rfl,rfl⟩ (by simp) λa ha=>by rw[mem_singleton.mp ha];exact hp) rfl
def kU (ks:List Key) (k:Key):Bool:=ks.any λj=>decide (j=k)
def np (ks:List Key) (k:Key):List Key:=if kU ks k=true then ks else ks++[k]
noncomputable def jx (ks:List Key) (ds:List D) (k:Key) (d:D):List D:=if kU ks k=true then List.zipWith (λj e=>if j=k then d else e) ks ds else ds++[d]
theorem tT (k:Key) (kvs:List (Key×V)):(kvs.any λkv=>decide (kv.1=k))=kU (kvs.map (·.1)) k:=by
 unfold kU;rw[List.any_map];rfl
theorem xf (kvs:List (Key×V)) (k:Key) (v:V):(eT kvs k v).map (·.1)=np (kvs.map (·.1)) k:=by
 unfold eT np;rw[tT];by_cases h:kU (kvs.map (·.1)) k=true
 ·rw[if_pos h,if_pos h,List.map_map];apply List.map_congr_left;intro p _;show(if p.1=k then(p.1,v)else p).1=p.1;split<;>rfl
 ·rw[if_neg h,if_neg h,List.map_append];rfl
theorem xg {K} (hd:Is K M d v) (l:IsL K M ds (kvs.map (·.2))):IsL K M (jx (kvs.map (·.1)) ds k d) ((eT kvs k v).map (·.2)):=by
 unfold eT jx;rw[tT];by_cases h:kU (kvs.map (·.1)) k=true
 ·rw[if_pos h,if_pos h];clear h;induction kvs generalizing ds with
  |nil=>
   have e:ds=[]:=by cases ds with|nil=>rfl|cons a b=>obtain⟨_,_,z,_⟩:=l;cases z
   subst e;exact rfl
  |cons p r ih=>
   cases ds with
   |nil=>cases(show(p::r).map (·.2)=[]from l)
   |cons e ds=>
    obtain⟨x,t,z,h,l⟩:=l;have z':p.2::r.map (·.2)=x::t:=z;cases z';refine⟨_,_,rfl,?_,ih l⟩;show Is K M (if p.1=k then d else e) (if p.1=k then(p.1,v)else p).2;by_cases hk:p.1=k
    ·rw[if_pos hk,if_pos hk];exact hd
    ·rw[if_neg hk,if_neg hk];exact h
 ·rw[if_neg h,if_neg h,List.map_append];exact l.app ⟨v,[],rfl,hd,rfl⟩
theorem DO (hd:lfD d=true):∀ {ds:List D},lfL ds=true->lfL (jx ks ds k d)=true:=λ{ds} h=>by
 unfold jx;split
 ·rename_i hn;clear hn;induction ks generalizing ds with
  |nil=>rfl
  |cons j ks ih=>
   cases ds with
   |nil=>rfl
   |cons e ds=>
    have h':(lfD e&&lfL ds)=true:=h;rw[and_eq_true]at h';show(lfD (if j=k then d else e)&&lfL (List.zipWith _ ks ds))=true;rw[ih h'.2,Bool.and_true];split
    ·exact hd
    ·exact h'.1
 ·rename_i hn;clear hn;induction ds with
  |nil=>show(lfD d&&true)=true;rw[hd];rfl
  |cons e ds ih=>
   have h':(lfD e&&lfL ds)=true:=h;rw[and_eq_true]at h';show(lfD e&&lfL (ds++[d]))=true;rw[h'.1,ih h'.2];rfl
noncomputable def jN (Y:Ev) (i:Nat):Option (List Key×List D):=(fZ Y i).bind λs=>match s with
 |(.deep,.dct ks ds)=>some (ks,ds)
 |_=>none
theorem iO (h:jN Y i=some w):Y[i]?=some (some (.deep,.dct w.1 w.2)):=by
 obtain⟨⟨c,d⟩,h1,h2⟩:=bind_some h;have h2':(match(c,d)with|(.deep,.dct ks ds)=>some (ks,ds)|_=>none)=some w:=h2;split at h2'
 ·rename_i ks ds e;cases h2';cases e;exact eD h1
 ·cases h2'
section
variable {K:Frag} {B:Bs} {O:Addr->Bool} {σ:St} {H:Hp} {Y:Ev}
theorem EnvOk.dctAt (E:EnvOk K B O σ H Y) {i:Nat} (h:Y[i]?=some (some (.deep,.dct ks ds))):∃a kvs,σ[i]?=some (some (.ref a))/\H a=some (.dK kvs)/\kvs.map (·.1)=ks/\O a=true/\B.H a=none:=by
 obtain⟨F,h1,h2,h3,h4⟩:=E.fp;obtain⟨v,e,a,kvs,A',z1,z2,z3,z4,l⟩:=h1 i _ h;exact⟨a,kvs,by rw[e,z1],z2,z3,h4 i a (by rw[z4];exact mem_cons_self)⟩
theorem EnvOk.dput (E:EnvOk K B O σ H Y) {i:Nat} (h:Y[i]?=some (some (.deep,.dct ks ds))) (lf:lfL ds=true) (ld:lfD d=true) (hv:Is K (msk O H) d v) (k:Key):
  ∃a kvs,σ[i]?=some (some (.ref a))/\H a=some (.dK kvs)/\kvs.map (·.1)=ks/\EnvOk K B O σ (upd H a (.dK (eT kvs k v))) (Y.set i (some (.deep,.dct (np ks k) (jx ks ds k d))))/\Same (msk O H) (msk O (upd H a (.dK (eT kvs k v)))):=by
 obtain⟨F,h1,h2,h3,h4⟩:=E.fp
 obtain⟨v0,e0,a,kvs,A',z1,z2,z3,z4,l⟩:=h1 i _ h
 subst z1
 have hA:A'=[]:=DeepL.lf ds _ A' lf l
 subst hA
 have haF:a∈F i:=by rw[z4];exact mem_cons_self
 obtain⟨oa,ba⟩:=h4 i a haF
 have me:msk O (upd H a (.dK (eT kvs k v)))=msk O H:=gU oa
 have le:Same (msk O H) (msk O (upd H a (.dK (eT kvs k v)))):=by rw[me];exact Same.refl _
 refine⟨a,kvs,e0,z2,z3,⟨λb o q=>?_,E.bdom,E.sub,λb hb=>?_,by rw[List.length_set];exact E.len,F,λj s q=>?_,h2,h3,h4⟩,le⟩
 ·rw[ag (ak q ba)];exact E.same b o q
 ·by_cases e:b=a
  ·subst e;exact .inr (.inr ⟨_,ah⟩)
  ·rw[ag e];exact E.lis b hb
 ·rcases get_set_some q with⟨e,q'⟩|⟨e,q'⟩
  ·cases q';subst e;refine⟨.ref a,e0,a,_,[],rfl,ah,by rw[xf,z3],z4,?_⟩;rw[me];subst z3;have il:IsL K (msk O H) ds (kvs.map (·.2)):=DeepL.is (NL.of (Same.refl _)) ds _ [] (λ_ h=>(nomatch h)) l;exact IsL.deep _ _ (DO ld lf) (xg hv il)
  ·obtain⟨w,e1,o1⟩:=h1 j s q';refine⟨w,e1,o1.frame le λb hb o z=>?_⟩;have:b≠a:=λz2=>e (h3 j i a (z2▸hb) haF);rw[ag this];exact z
end
section
variable {X:Cx} {e:Expr} {pos:Pos}
noncomputable def GF:CI:=λo i v H Q=>∃p kvs k,o=.ref p/\i=kV k/\H p=some (.dK kvs)/\kvs.length<sizeLine/\Q (upd H p (.dK (eT kvs k v)))
theorem xh:Fy X GF:=by
 intro pins s σ H o i v ov iv u Q I ro ri rv h;obtain⟨p,kvs,k,rfl,rfl,hp,hl,q⟩:=h;cases ro;obtain⟨z,hd,vs,rel,dd⟩:=B3 I.hok hp;have hz:vs.length<=sizeLine:=by rw[<-rel.length];exact z
 have hl':(eT kvs k v).length<=sizeLine:=by have:=jr kvs k v;omega
 refine wpAny_setItem_pairs (hsz:=hz) (pF ri) dd λh' dd' hs=>⟨_,?_,q⟩;have he:∃q,h'.get? p=some q:=let⟨q,_,_,hq,_⟩:=dd';⟨q,hq⟩;exact tj I (by rw[hp];exact True.intro) hs he (wt hl' hd (rel.put k rv) dd')
noncomputable def xi (i:Nat) (fk:Vv->Option D) (R:Vv->Option D):Ev->Option Out:=λY=>(jN Y i).bind λw=>(lfO (R (vw Y))).bind λd=>(fk (vw Y)).bind λy=>(uR y).bind λk=>if lfL w.2=true/\w.1.length+1<big then some (.nx (Y.set i (some (.deep,.dct (np w.1 k) (jx w.1 w.2 k d)))))else none
theorem DP (i:Nat) (h:PP X e R) (hk:PP X ik fk) (hN:X.N[i]?=some x) (hv:Vis X.env.scope x) (hd:(x==("__debug__":Str))=false) (hcd:(x==("__classdict__":Str))=false) (ha:∀v,assign (.Subscript (.Name x px) ik spos) X.env v=(do
   let ov<-holding [v] (eval (.Name x px) X.env)
   let iv<-holding [v,ov] (eval ik X.env)
   standAt spos
   holding [v,ov,iv] (setItem ov iv v)
   release [v,ov,iv] [])) (hs:swapsWithSole [.Subscript (.Name x px) ik spos] e pos.line X.env=pure false) (hw:swappedStores [.Subscript (.Name x px) ik spos] e X.env=pure none) (h1:(assignEach [.Subscript (.Name x px) ik spos] X.env).map (·.2)=[assign (.Subscript (.Name x px) ik spos) X.env]):PR X (.Assign [.Subscript (.Name x px) ik spos] e pos) (xi i fk R):=λB O Y=>
 (CK (h noO (vw Y)) (CJ (bO hN hv hd hcd) (hk noO (vw Y)) xh ha) hs hw h1).imp λEn σ H ⟨E,o,q,k⟩=>by
 obtain⟨⟨ks,ds⟩,q1,q⟩:=bind_some q
 obtain⟨d,q2,q⟩:=bind_some q
 obtain⟨y,q3,q⟩:=bind_some q
 obtain⟨j,q4,q⟩:=bind_some q
 obtain⟨⟨hl,hz⟩,q⟩:=ay q
 subst q
 obtain⟨d',p5,p6⟩:=bind_some q2
 obtain⟨ld,p7⟩:=ay p6
 subst p7
 have h0:=iO q1
 refine⟨E.view,d',p5,λv H1 s1 iv=>?_⟩
 have E1:=E.grow s1
 obtain⟨a,kvs,e1,e2,e3,_⟩:=E1.dctAt h0
 refine⟨.ref a,e1,E1.view,y,q3,λyv H2 s2 iy=>?_⟩
 have E2:=E1.grow s2
 have iv':Is X.K (msk O H2) d' v:=Is.nl (by have:=E2.nl;rw[hG]at*;exact(NL.of s2).trans this) d' v ld iv
 obtain⟨a',kvs',f1,f2,f3,f4,f5⟩:=E2.dput h0 hl ld iv' j
 rw[e1]at f1
 cases f1
 exact⟨a,kvs',j,rfl,nT q4 iy,f2,by
  have:kvs'.length=ks.length:=by have:=congrArg List.length f3;rwa [length_map]at this
  have hz:ks.length+1<big:=hz;rw[dW];omega,k σ _ O (s1.msk.trans (s2.msk.trans f5)) f4⟩
end
section
variable {X:Cx} {a:Expr} {p pos:Pos}
theorem xj:bootBuiltins "sorted"=some (.builtin "sorted"):=by decide+kernel
def mv (ns:List Int):List Int:=ns.mergeSort (λa b=>decide (a<=b))
theorem xk (h1:ms.Perm ns) (h2:ms.Pairwise (·<=·)):ms=mv ns:=by
 refine List.Perm.eq_of_pairwise (le:=λa b=>a<=b) (λa b _ _ h h'=>Int.le_antisymm h h') h2 ?_ (h1.trans (List.mergeSort_perm _ _).symm);have:=List.pairwise_mergeSort (le:=λa b:Int=>decide (a<=b)) (λa b c h1 h2=>decide_eq_true (Int.le_trans (of_decide_eq_true h1) (of_decide_eq_true h2))) (λa b=>by simp;omega) ns;exact this.imp λh=>of_decide_eq_true h
theorem B8:∀ {ns:List Int} {us:List Value},Vals (ns.map V.int) us->IntsAre us ns
 |[],_,.nil=>.nil
 |n::ns,_,.cons ⟨t,e⟩ r=>by subst e;exact .cons n t (B8 r)
theorem nq:∀ {us:List Value} {ns:List Int},IntsAre us ns->Vals (ns.map V.int) us
 |_,_,.nil=>.nil
 |_,_,.cons n t r=>.cons ⟨t,rfl⟩ (nq r)
noncomputable def GG (K:Frag):List V->Hp->VK->Prop:=λvs H Q=>∃l ns,vs=[.ref l]/\SqL K H l (ns.map V.int)/\ns.length<64/\∀q,H q=none->Q (.ref q) (upd H q (.lst ((mv ns).map V.int)))
theorem vc:dk X (.builtin "sorted") (GG X.K):=by
 intro pins s σ H xs us Q I r h;obtain⟨l,ns,rfl,hx,h64,q⟩:=h;obtain⟨u,rfl,ru⟩:=f6 r;cases ru;obtain⟨its,rv,pl,hz⟩:=I.list hx;have hl:=rv.length;rw[length_map]at hl;refine PyProof.Rows.sorted_ints pl.isList (B8 rv) (by omega) λout ms h1 h2 h3=>?_;obtain⟨e,he⟩:=sortedAll_at s.heap its out;have z:=xk h2 h3;subst z;have fr:H (s.heap.objs.size+1)=none:=I.hok.fresh (Nat.le_succ _);refine⟨.ref _,_,I.laid (t':=s.toks) (λb o q=>sortedAll_old q) (Nat.le_succ _) (o:=.lst ((mv ns).map V.int)) ⟨?_,out.toList,e,nq h1,by simpa using he⟩,rfl,q _ fr⟩;rw[length_map,h2.length_eq];have:(64:Nat)<=sizeLine:=by decide
 omega
noncomputable def jy:List D->Option (List D):=un1 λd=>(eV d).bind λds=>(bU ds).bind λns=>if ns.length<64 then some ((mv ns).map D.int)else none
theorem kW {K}:∀ (ns:List Int),IsL K H (ns.map D.int) (ns.map V.int)
 |[]=>rfl
 |n::ns=>⟨_,_,rfl,rfl,kW ns⟩
theorem AQ (hg:Gl X "sorted") (hm:X.mg "sorted"=none) (ha:PX X [a] fa) (hs:starEach [a] X.env=[(false,eval a X.env)]):
  PF X (.Call (.Name "sorted" p) [a] [] pos) (λY=>(fa Y).bind jy):=λO Y=>(kn vc hg hm xj (ha O Y) (by decide) (by decide) (by rw[hs];rfl) rfl).imp λσ H Q ⟨E,ds,q,k⟩=>by
 obtain⟨as,e1,q⟩:=bind_some q
 refine⟨E,as,e1,λvs H1 s1 il=>?_⟩
 obtain⟨c,rfl,q2⟩:=bu q
 obtain⟨xs,q3,q4⟩:=bind_some q2
 obtain⟨ns,q5,q6⟩:=bind_some q4
 obtain⟨h64,q7⟩:=ay q6
 subst q7
 obtain⟨v,rfl,h⟩:=is1 il
 obtain⟨l,ys,rfl,t,l2⟩:=cH q3 h
 rw[eu q5 l2]at t
 exact⟨l,ns,rfl,msk_le.seq t,h64,λb hb=>k b _ H1 s1 hb (kW _)⟩
end
end L2
namespace L2
open PySem PySem.W PyProof.Rows
section
variable {prog:Program} {w:World} {A:Around} {E:Value->Shared->Prop} {s:Shared}
structure SortBy (prog:Program) (w:World) (A:Around) (s:Shared) (a:Addr) (vs:List Value) (κ:SortKind) (c:Nat->Nat->Bool):Prop where
 kd:∀h',(∀b o,b≠a->s.heap.get? b=some o->h'.get? b=some o)->2<=vs.length->∀ (Q:SortKind->Shared->Prop),Q κ {s with heap:=h'}->wpAny (model prog w) A (keyKind' vs.toArray) Q (λ_ _=>False) {s with heap:=h'}
 cp:∀h',(∀b o,b≠a->s.heap.get? b=some o->h'.get? b=some o)->∀i j,i<vs.length->j<vs.length->∀ (Q:Bool->Shared->Prop),Q (c i j) {s with heap:=h'}->wpAny (model prog w) A (keyLt' κ (vs.getD i .none) (vs.getD j .none)) Q (λ_ _=>False) {s with heap:=h'}
end
end L2
namespace L2
open PySem PySem.W PyProof.Rows
noncomputable def gallop':Bool->Keyed->Array Keyed->Nat->Nat->Nat->StateT SortSt Sem (Option Nat):=sortPriv%PySem.Builtin.gallop
noncomputable def mergeLo':Array Keyed->Array Keyed->StateT SortSt Sem (Array Keyed):=sortPriv%PySem.Builtin.mergeLo
noncomputable def mergeHi':Array Keyed->Array Keyed->StateT SortSt Sem (Array Keyed):=sortPriv%PySem.Builtin.mergeHi
section
variable {prog:Program} {w:World} {A:Around} {E:Value->Shared->Prop} {s:Shared} {rk:Keyed->Int} {κ:SortKind} {ok:Keyed->Prop}
noncomputable def cu (prog:Program) (w:World) (A:Around) (s:Shared) (κ:SortKind) (rk:Keyed->Int) (ok:Keyed->Prop):Prop:=
 ∀x y,ok x->ok y->∀Q:Bool->Shared->Prop,Q (decide (rk x<rk y)) s->wpAny (model prog w) A (keyLt' κ x.1 y.1) Q (λ_ _=>False) s
theorem pR {st:SortSt} (L:cu prog w A s κ rk ok) (hk:kindOf st=κ) (hx:ok x) (hy:ok y) (h:Q (some (decide (rk x<rk y))) st):wpS (model prog w) A E s (lt' x y) Q st:=by
 rw[lt'_eq];refine wpS_bind (wpS_get ?_);rw[hk];refine wpS_bind (wpS_lift (wpAny_attempt (wpAny_mono (L x y hx hy (λc s'=>c=decide (rk x<rk y)/\s'=s) ⟨rfl,rfl⟩) (λc s' hc=>?_) λ_ _ hF=>hF.elim)));obtain⟨rfl,rfl⟩:=hc;exact⟨rfl,wpS_pure h⟩
theorem aH {st} (hx:arr[i]?=some x) (h:Q x st):wpS (model prog w) A E s (elem' arr i) Q st:=by
 rw[elem'_eq,hx];exact wpS_pure h
def gAt (rk:Keyed->Int) (arr:Array Keyed) (i:Nat):Int:=rk (arr.getD i (Value.none,Value.none))
theorem DQ (h:i<arr.size):∃x,arr[i]?=some x/\rk x=gAt rk arr i:=⟨arr[i],by simp[h],by unfold gAt;simp[Array.getD,h]⟩
def AllOk (ok:Keyed->Prop) (arr:Array Keyed):Prop:=∀ (i:Nat) (x:Keyed),arr[i]?=some x->ok x
noncomputable def bey (rk:Keyed->Int) (left:Bool) (key:Keyed) (arr:Array Keyed) (i:Nat):Bool:=if left=true then decide (gAt rk arr i<rk key)else !decide (rk key<gAt rk arr i)
theorem kX {st:SortSt} (L:cu prog w A s κ rk ok) (hk:kindOf st=κ) (hkey:ok key) (ha:AllOk ok arr) (hi:i<arr.size) (h:Q (some (bey rk left key arr i)) st):
  wpS (model prog w) A E s (do let x<-elem' arr i;if left=true then lt' x key else do let r<-lt' key x;pure (r.map (!·))) Q st:=by
 obtain⟨x,hx,hr⟩:=DQ (rk:=rk) hi
 refine wpS_bind (aH hx ?_)
 unfold bey at h
 cases left with
 |true=>
  rw[if_pos rfl]at h⊢;exact pR L hk (ha _ _ hx) hkey (by rw[hr];exact h)
 |false=>
  rw[if_neg Bool.false_ne_true]at h⊢;refine wpS_bind (pR L hk hkey (ha _ _ hx) (wpS_pure ?_));rw[hr];exact h
theorem iP {st:SortSt} (L:cu prog w A s κ rk ok) (hk:kindOf st=κ) (hkey:ok key) (ha:AllOk ok arr) (hn:hint<n) (hsz:base+n<=arr.size) (hm:∀i j,i<=j->j<n->bey rk left key arr (base+j)=true->bey rk left key arr (base+i)=true) (h:∀k,k<=n->(∀i,i<k->bey rk left key arr (base+i)=true)->(∀i,k<=i->i<n->bey rk left key arr (base+i)=false)->Q (some k) st):wpS (model prog w) A E s (gallop' left key arr base n hint) Q st:=by
 have hm2:∀i j,i<=j->j<n->bey rk left key arr (base+i)=false->bey rk left key arr (base+j)=false:=λi j hij hj hf=>by
  cases e:bey rk left key arr (base+j)with
  |false=>rfl
  |true=>rw[hm i j hij hj e]at hf;cases hf
 have fin:∀ (f:Nat->Option (Option Nat)×Nat×Nat->StateT SortSt Sem (ForInStep (Option (Option Nat)×Nat×Nat))) (g:Option (Option Nat)×Nat×Nat->StateT SortSt Sem (Option Nat)),
   (∀x l h (Q':ForInStep (Option (Option Nat)×Nat×Nat)->SortSt->Prop),(l≥h->Q' (.done (none,l,h)) st)->(¬l≥h->base+(l+(h-l)/2)<arr.size/\(bey rk left key arr (base+(l+(h-l)/2))=true->Q' (.yield (none,l+(h-l)/2+1,h)) st)/\(bey rk left key arr (base+(l+(h-l)/2))=false->Q' (.yield (none,l,l+(h-l)/2)) st))->wpS (model prog w) A E s (f x (none,l,h)) Q' st)->
   (∀l h,Q (some h) st->wpS (model prog w) A E s (g (none,l,h)) Q st)->
   ∀lo hi,lo<=hi->hi<=n->(∀i,i<lo->bey rk left key arr (base+i)=true)->(∀i,hi<=i->i<n->bey rk left key arr (base+i)=false)->wpS (model prog w) A E s (forIn [:n] (none,lo,hi) f>>=g) Q st:=by
  intro f g hf hg lo hi hlh hhn hl hh
  refine wpS_bind (wpS_mono (wpS_forRange (I:=λi c st'=>st'=st/\∃l h,c=(none,l,h)/\l<=h/\h<=n/\h-l<=n-i/\(∀i,i<l->bey rk left key arr (base+i)=true)/\∀i,h<=i->i<n->bey rk left key arr (base+i)=false)
   (Q:=λc st'=>st'=st/\∃l h,c=(none,l,h)/\l=h/\h<=n/\(∀i,i<l->bey rk left key arr (base+i)=true)/\∀i,h<=i->i<n->bey rk left key arr (base+i)=false) ?_ ?_ ⟨rfl,lo,hi,rfl,hlh,hhn,by omega,hl,hh⟩) ?_)
  ·rintro i c st' _ hi' ⟨rfl,l,h,rfl,h1,h2,h3,h4,h5⟩;refine hf i l h _ (λq=>⟨rfl,l,h,rfl,by omega,h2,h4,h5⟩) λq=>⟨by omega,λe=>⟨rfl,_,_,rfl,by omega,h2,by omega,λj hj=>hm j (l+(h-l)/2) (by omega) (by omega) e,h5⟩,λe=>⟨rfl,_,_,rfl,by omega,by omega,by omega,h4,λj hj hjn=>hm2 (l+(h-l)/2) j hj hjn e⟩⟩
  ·rintro c st' ⟨rfl,l,h,rfl,h1,h2,h3,h4,h5⟩;rw[Nat.max_eq_right (Nat.zero_le _)]at h3;exact⟨rfl,l,h,rfl,by omega,h2,h4,h5⟩
  ·rintro c st' ⟨rfl,l,h',rfl,h1,h2,h4,h5⟩;exact hg l h' (h h' h2 (by rw[<-h1];exact h4) h5)
 refine wpS_bind (kX L hk hkey ha (by omega) ?_);dsimp only;cases e:bey rk left key arr (base+hint)with
 |true=>
  rw[if_pos rfl];refine wpS_bind (wpS_mono (wpS_forRange (I:=λi c st'=>st'=st/\∃l o,c=(none,l,o)/\l<o/\i<o/\hint+l<n/\bey rk left key arr (base+(hint+l))=true)
   (Q:=λc st'=>st'=st/\∃l o,c=(none,l,o)/\l<o/\hint+l<n/\bey rk left key arr (base+(hint+l))=true/\(n-hint<=o\/bey rk left key arr (base+(hint+o))=false)) ?_ ?_ ⟨rfl,0,1,rfl,by omega,by omega,by omega,e⟩) ?_)
  ·rintro i c st' _ hi' ⟨rfl,l,o,rfl,h1,h2,h3,h4⟩;dsimp only;by_cases q:o≥n-hint
   ·rw[if_pos q];exact wpS_pure ⟨rfl,l,o,rfl,h1,h3,h4,.inl q⟩
   ·rw[if_neg q];refine wpS_bind (kX L hk hkey ha (by omega) ?_);dsimp only;cases e2:bey rk left key arr (base+(hint+o))with
    |true=>
     rw[if_neg (by simp)];exact wpS_pure ⟨rfl,_,_,rfl,by omega,by omega,by omega,e2⟩
    |false=>
     rw[if_pos (by simp)];exact wpS_pure ⟨rfl,l,o,rfl,h1,h3,h4,.inr e2⟩
  ·rintro c st' ⟨rfl,l,o,rfl,h1,h2,h3,h4⟩;exact⟨rfl,l,o,rfl,h1,h3,h4,.inl (by omega)⟩
  ·rintro c st' ⟨rfl,l,o,rfl,h1,h3,h4,h5⟩;dsimp only;refine fin _ _ ?_ ?_ (hint+l+1) (hint+min o (n-hint)) (by omega) (by omega) (λj hj=>hm j (hint+l) (by omega) (by omega) h4) (λj hj hjn=>?_)
   ·intro x l h Q' q1 q2;dsimp only;by_cases q:l≥h
    ·rw[if_pos q];exact wpS_pure (q1 q)
    ·rw[if_neg q];obtain⟨b1,b2,b3⟩:=q2 q;refine wpS_bind (kX L hk hkey ha b1 ?_);dsimp only;cases e3:bey rk left key arr (base+(l+(h-l)/2))with
     |true=>rw[if_pos rfl];exact wpS_pure (b2 e3)
     |false=>rw[if_neg Bool.false_ne_true];exact wpS_pure (b3 e3)
   ·exactλl h q=>wpS_pure q
   ·rcases h5 with h5|h5
    ·omega
    ·exact hm2 (hint+o) j (by omega) hjn h5
 |false=>
  rw[if_neg Bool.false_ne_true];refine wpS_bind (wpS_mono (wpS_forRange (I:=λi c st'=>st'=st/\∃l o,c=(none,l,o)/\l<o/\i<o/\l<=hint/\bey rk left key arr (base+(hint-l))=false)
   (Q:=λc st'=>st'=st/\∃l o,c=(none,l,o)/\l<o/\l<=hint/\bey rk left key arr (base+(hint-l))=false/\(hint+1<=o\/bey rk left key arr (base+(hint-o))=true)) ?_ ?_ ⟨rfl,0,1,rfl,by omega,by omega,by omega,e⟩) ?_)
  ·rintro i c st' _ hi' ⟨rfl,l,o,rfl,h1,h2,h3,h4⟩;dsimp only;by_cases q:o≥hint+1
   ·rw[if_pos q];exact wpS_pure ⟨rfl,l,o,rfl,h1,h3,h4,.inl q⟩
   ·rw[if_neg q];refine wpS_bind (kX L hk hkey ha (by omega) ?_);dsimp only;cases e2:bey rk left key arr (base+(hint-o))with
    |true=>
     rw[if_pos rfl];exact wpS_pure ⟨rfl,l,o,rfl,h1,h3,h4,.inr e2⟩
    |false=>
     rw[if_neg Bool.false_ne_true];exact wpS_pure ⟨rfl,_,_,rfl,by omega,by omega,by omega,e2⟩
  ·rintro c st' ⟨rfl,l,o,rfl,h1,h2,h3,h4⟩;exact⟨rfl,l,o,rfl,h1,h3,h4,.inl (by omega)⟩
  ·rintro c st' ⟨rfl,l,o,rfl,h1,h3,h4,h5⟩;dsimp only;refine fin _ _ ?_ ?_ (hint+1-min o (hint+1)) (hint-l) (by omega) (by omega) (λj hj=>?_) (λj hj hjn=>hm2 (hint-l) j hj hjn h4)
   ·intro x l h Q' q1 q2;dsimp only;by_cases q:l≥h
    ·rw[if_pos q];exact wpS_pure (q1 q)
    ·rw[if_neg q];obtain⟨b1,b2,b3⟩:=q2 q;refine wpS_bind (kX L hk hkey ha b1 ?_);dsimp only;cases e3:bey rk left key arr (base+(l+(h-l)/2))with
     |true=>rw[if_pos rfl];exact wpS_pure (b2 e3)
     |false=>rw[if_neg Bool.false_ne_true];exact wpS_pure (b3 e3)
   ·exactλl h q=>wpS_pure q
   ·rcases h5 with h5|h5
    ·omega
    ·exact hm j (hint-o) (by omega) (by omega) h5
end
end L2
namespace L2
open PySem PySem.W PyProof.Rows
section
variable {rk:Keyed->Int}
def Srt (rk:Keyed->Int) (l:List Keyed):Prop:=l.Pairwise λx y=>rk x<=rk y
def Le (rk:Keyed->Int) (l m:List Keyed):Prop:=∀x∈l,∀y∈m,rk x<=rk y
theorem Srt.app (h1:Srt rk l) (h2:Srt rk m) (h:Le rk l m):Srt rk (l++m):=List.pairwise_append.mpr ⟨h1,h2,h⟩
theorem Srt.drop (h:Srt rk l) (i:Nat):Srt rk (l.drop i):=h.sublist (List.drop_sublist _ _)
theorem Srt.take (h:Srt rk l) (i:Nat):Srt rk (l.take i):=h.sublist (List.take_sublist _ _)
theorem Srt.parts (h:Srt rk l) (i:Nat):Le rk (l.take i) (l.drop i):=by
 have:=h;rw[<-List.take_append_drop i l]at this;exact(List.pairwise_append.mp this).2.2
theorem Le.sub (h:Le rk l m) (h1:∀x∈l',x∈l) (h2:∀x∈m',x∈m):Le rk l' m':=λx hx y hy=>h x (h1 x hx) y (h2 y hy)
theorem Le.app (h:Le rk l m) (h':Le rk l' m):Le rk (l++l') m:=λx hx y hy=>(mem_append.mp hx).elim (λz=>h x z y hy) λz=>h' x z y hy
structure MI (rk:Keyed->Int) (A B O:List Keyed) (i j:Nat):Prop where
 pm:O.Perm (A.take i++B.take j)
 st:Srt rk O
 la:Le rk O (A.drop i)
 lb:Le rk O (B.drop j)
variable {A B O:List Keyed} {i j k:Nat}
theorem MI.extA (h:MI rk A B O i j) (hA:Srt rk A) (hl:Le rk ((A.drop i).take k) (B.drop j)):MI rk A B (O++(A.drop i).take k) (i+k) j where
 pm:=by
  have e:A.take (i+k)=A.take i++(A.drop i).take k:=List.take_add;rw[e];refine(h.pm.append_right _).trans ?_;rw[List.append_assoc,List.append_assoc];exact List.perm_append_comm.append_left _
 st:=h.st.app ((hA.drop i).take k) (h.la.sub (λ_ z=>z) λ_ z=>List.mem_of_mem_take z)
 la:=by
  have e:A.drop (i+k)=(A.drop i).drop k:=(List.drop_drop ..).symm;rw[e];exact(h.la.sub (λ_ z=>z) λ_ z=>List.mem_of_mem_drop z).app ((hA.drop i).parts k)
 lb:=h.lb.app hl
theorem MI.swap (h:MI rk A B O i j):MI rk B A O j i:=⟨h.pm.trans List.perm_append_comm,h.st,h.lb,h.la⟩
theorem MI.extB (h:MI rk A B O i j) (hB:Srt rk B) (hl:Le rk ((B.drop j).take k) (A.drop i)):MI rk A B (O++(B.drop j).take k) i (j+k):=(h.swap.extA hB hl).swap
theorem MI.fin (h:MI rk A B O i j) (hA:Srt rk A) (hB:Srt rk B) (hl:Le rk (A.drop i) (B.drop j)):(O++A.drop i++B.drop j).Perm (A++B)/\Srt rk (O++A.drop i++B.drop j):=by
 refine⟨?_,(h.st.app (hA.drop i) h.la).app (hB.drop j) (h.lb.app hl)⟩;refine((h.pm.append_right _).append_right _).trans ?_;conv=>rhs;rw[<-List.take_append_drop i A,<-List.take_append_drop j B]
 rw[List.append_assoc,List.append_assoc,List.append_assoc];refine List.Perm.append_left _ ?_;rw[<-List.append_assoc,<-List.append_assoc];exact List.perm_append_comm.append_right _
theorem MI.fin' (h:MI rk A B O i j) (hA:Srt rk A) (hB:Srt rk B) (hl:Le rk (B.drop j) (A.drop i)):(O++B.drop j++A.drop i).Perm (A++B)/\Srt rk (O++B.drop j++A.drop i):=
 (h.swap.fin hB hA hl).imp (λp=>p.trans List.perm_append_comm) id
structure MH (rk:Keyed->Int) (A B R:List Keyed) (i j:Nat):Prop where
 pm:R.Perm (A.drop i++B.drop j)
 st:Srt rk R
 la:Le rk (A.take i) R
 lb:Le rk (B.take j) R
theorem Le.appR (h:Le rk l m) (h':Le rk l m'):Le rk l (m++m'):=λx hx y hy=>(mem_append.mp hy).elim (λz=>h x hx y z) λz=>h' x hx y z
theorem MH.extA {R:List Keyed} {i':Nat} (h:MH rk A B R i j) (hi:i'<=i) (hA:Srt rk A) (hl:Le rk (B.take j) ((A.take i).drop i')):MH rk A B ((A.take i).drop i'++R) i' j where
 pm:=by
  have e:A.drop i'=(A.take i).drop i'++A.drop i:=by
   conv=>lhs;rw[<-List.take_append_drop i A]
   rw[List.drop_append];by_cases hz:i<=A.length
   ·rw[List.length_take,Nat.min_eq_left hz,Nat.sub_eq_zero_of_le hi,List.drop_zero]
   ·rw[List.drop_of_length_le (l:=A) (i:=i) (by omega),List.drop_nil]
  rw[e,List.append_assoc];exact h.pm.append_left _
 st:=((hA.take i).drop i').app h.st (h.la.sub (λ_ z=>List.mem_of_mem_drop z) λ_ z=>z)
 la:=by
  have e:A.take i'=(A.take i).take i':=by rw[List.take_take,Nat.min_eq_left hi]
  rw[e];exact((hA.take i).parts i').appR (h.la.sub (λ_ z=>List.mem_of_mem_take z) λ_ z=>z)
 lb:=hl.appR h.lb
theorem MH.swap (h:MH rk A B R i j):MH rk B A R j i:=⟨h.pm.trans List.perm_append_comm,h.st,h.lb,h.la⟩
theorem MH.extB (h:MH rk A B R i j) (hj:j'<=j) (hB:Srt rk B) (hl:Le rk (A.take i) ((B.take j).drop j')):MH rk A B ((B.take j).drop j'++R) i j':=(h.swap.extA hj hB hl).swap
theorem MH.fin (h:MH rk A B R i j) (hA:Srt rk A) (hB:Srt rk B) (hl:Le rk (A.take i) (B.take j)):(A.take i++B.take j++R).Perm (A++B)/\Srt rk (A.take i++B.take j++R):=by
 refine⟨?_,((hA.take i).app (hB.take j) hl).app h.st (h.la.app h.lb)⟩;refine(h.pm.append_left _).trans ?_;conv=>rhs;rw[<-List.take_append_drop i A,<-List.take_append_drop j B]
 rw[List.append_assoc,List.append_assoc];refine List.Perm.append_left _ ?_;rw[<-List.append_assoc,<-List.append_assoc];exact List.perm_append_comm.append_right _
theorem MH.fin' (h:MH rk A B R i j) (hA:Srt rk A) (hB:Srt rk B) (hl:Le rk (B.take j) (A.take i)):(B.take j++A.take i++R).Perm (A++B)/\Srt rk (B.take j++A.take i++R):=
 (h.swap.fin hB hA hl).imp (λp=>p.trans List.perm_append_comm) id
variable {a:Array Keyed} {n:Nat}
theorem oi (h:x∈(a.toList.drop i).take k):∃m,i<=m/\m<i+k/\m<a.size/\a[m]?=some x/\gAt rk a m=rk x:=by
 obtain⟨m,hm⟩:=List.mem_iff_getElem?.mp h;rw[List.getElem?_take]at hm;split at hm
 ·rw[List.getElem?_drop]at hm;have hl:i+m<a.size:=(List.getElem?_eq_some_iff.mp hm).1;have hx:a[i+m]?=some x:=by rw[<-Array.getElem?_toList];exact hm
  exact⟨i+m,by omega,by omega,hl,hx,by unfold gAt;rw[Array.getD_eq_getD_getElem?,hx];rfl⟩
 ·cases hm
theorem j4 (h:x∈a.toList.drop i):∃m,i<=m/\m<a.size/\a[m]?=some x/\gAt rk a m=rk x:=by
 obtain⟨m,h1,_,h3,h4⟩:=oi (a:=a) (i:=i) (rk:=rk) (k:=a.size) (by rw[List.take_of_length_le (by rw[List.length_drop,Array.length_toList];omega)];exact h);exact⟨m,h1,h3,h4⟩
theorem j5 (h:x∈a.toList.take k):∃m,m<k/\m<a.size/\a[m]?=some x/\gAt rk a m=rk x:=by
 obtain⟨m,h1,h2,h3,h4⟩:=oi (a:=a) (rk:=rk) (i:=0) (k:=k) (by rw[List.drop_zero];exact h);exact⟨m,by omega,h3,h4⟩
theorem srt_at (h:Srt rk a.toList) (hij:i<=j) (hj:j<a.size):gAt rk a i<=gAt rk a j:=by
 have hi:i<a.size:=by omega
 have e:∀m (hm:m<a.size),gAt rk a m=rk a.toList[m]:=λm hm=>by unfold gAt;simp[Array.getD,hm]
 rcases Nat.lt_or_eq_of_le hij with q|q
 ·have:=List.pairwise_iff_getElem.mp h i j (by simpa using hi) (by simpa using hj) q;rw[e i hi,e j hj];exact this
 ·subst q;exact Int.le_refl _
theorem aU (h:i<a.size):∃x,a[i]?=some x/\gAt rk a i=rk x/\(a.toList.drop i).take 1=[x]/\(a.toList.take (i+1)).drop i=[x]:=by
 refine⟨a[i],by simp[h],by unfold gAt;simp[Array.getD,h],?_,?_⟩
 ·rw[List.drop_eq_getElem_cons (by simpa using h)];simp
 ·rw[List.take_add_one,List.drop_append];simp[h,Nat.min_eq_left (Nat.le_of_lt h)]
end
end L2
namespace L2
open PySem PySem.W PyProof.Rows
noncomputable def SG (st st':SortSt):Prop:=kindOf st'=kindOf st/\arrOf st'=arrOf st/\pendingOf st'=pendingOf st/\failedOf st'=failedOf st
theorem SG.refl (st:SortSt):SG st st:=⟨rfl,rfl,rfl,rfl⟩
noncomputable def dt (rk:Keyed->Int) (a b r:Array Keyed):Prop:=r.toList.Perm (a.toList++b.toList)/\Srt rk r.toList
section
variable {prog:Program} {w:World} {A:Around} {E:Value->Shared->Prop} {s:Shared} {rk:Keyed->Int} {κ:SortKind} {ok:Keyed->Prop} {a b out:Array Keyed} {ia ib k:Nat}
theorem du (a:Array Keyed) (i j:Nat):(a.extract i j).toList=(a.toList.drop i).take (j-i):=by
 rw[Array.toList_extract]
theorem j6 (a:Array Keyed) (i:Nat):(a.extract i a.size).toList=a.toList.drop i:=by
 rw[du,List.take_of_length_le (by rw[List.length_drop,Array.length_toList];omega)]
theorem MI.pB (h:MI rk a.toList b.toList out.toList ia ib) (hB:Srt rk b.toList) (hy:b[ib]?=some y) (hl:Le rk [y] (a.toList.drop ia)):MI rk a.toList b.toList (out.push y).toList ia (ib+1):=by
 have hlt:ib<b.size:=(Array.getElem?_eq_some_iff.mp hy).1;obtain⟨z,e1,_,e2,_⟩:=aU (rk:=rk) hlt;rw[hy]at e1;cases e1;have:=h.extB (k:=1) hB (by rw[e2];exact hl);rw[e2]at this;rw[Array.toList_push];exact this
theorem MI.pA (h:MI rk a.toList b.toList out.toList ia ib) (hA:Srt rk a.toList) (hy:a[ia]?=some y) (hl:Le rk [y] (b.toList.drop ib)):MI rk a.toList b.toList (out.push y).toList (ia+1) ib:=by
 have hlt:ia<a.size:=(Array.getElem?_eq_some_iff.mp hy).1;obtain⟨z,e1,_,e2,_⟩:=aU (rk:=rk) hlt;rw[hy]at e1;cases e1;have:=h.extA (k:=1) hA (by rw[e2];exact hl);rw[e2]at this;rw[Array.toList_push];exact this
theorem MI.eA (h:MI rk a.toList b.toList out.toList ia ib) (hA:Srt rk a.toList) (hl:Le rk ((a.toList.drop ia).take k) (b.toList.drop ib)):MI rk a.toList b.toList (out++a.extract ia (ia+k)).toList (ia+k) ib:=by
 rw[Array.toList_append,du,Nat.add_sub_cancel_left];exact h.extA hA hl
theorem MI.eB (h:MI rk a.toList b.toList out.toList ia ib) (hB:Srt rk b.toList) (hl:Le rk ((b.toList.drop ib).take k) (a.toList.drop ia)):MI rk a.toList b.toList (out++b.extract ib (ib+k)).toList ia (ib+k):=by
 rw[Array.toList_append,du,Nat.add_sub_cancel_left];exact h.extB hB hl
theorem MI.done (h:MI rk a.toList b.toList out.toList ia ib) (hA:Srt rk a.toList) (hB:Srt rk b.toList) (hl:Le rk (a.toList.drop ia) (b.toList.drop ib)):dt rk a b (out++a.extract ia a.size++b.extract ib b.size):=by
 have:=h.fin hA hB hl;unfold dt;rw[Array.toList_append,Array.toList_append,j6,j6];exact this
theorem MI.done' (h:MI rk a.toList b.toList out.toList ia ib) (hA:Srt rk a.toList) (hB:Srt rk b.toList) (hl:Le rk (b.toList.drop ib) (a.toList.drop ia)):dt rk a b (out++b.extract ib b.size++a.extract ia a.size):=by
 have:=h.fin' hA hB hl;unfold dt;rw[Array.toList_append,Array.toList_append,j6,j6];exact this
theorem j7:Le rk l []:=λ_ _ _ h=>nomatch h
theorem j8:Le rk [] l:=λ_ h=>nomatch h
theorem hZ (a:Array Keyed) (h:a.size<=i):a.toList.drop i=[]:=List.drop_of_length_le (by rw[Array.length_toList];exact h)
theorem kY (hA:Srt rk a.toList) (h:i<a.size->rk y<=gAt rk a i):Le rk [y] (a.toList.drop i):=λx hx z hz=>by
 cases mem_singleton.mp hx;obtain⟨m,h1,h2,_,h4⟩:=j4 (rk:=rk) hz;have:=srt_at hA h1 h2;have:=h (by(clear hA h hz hx h4 this;omega));(clear hA hz hx this;omega)
theorem B9 (h1:∀m,i<=m->m<i+k->m<p.size->gAt rk p m<=v) (h2:j<q.size->v<=gAt rk q j) (hq:Srt rk q.toList):Le rk ((p.toList.drop i).take k) (q.toList.drop j):=λx hx y hy=>by
 obtain⟨m,a1,a2,a3,_,a5⟩:=oi (rk:=rk) hx;obtain⟨m',c1,c2,_,c4⟩:=j4 (rk:=rk) hy;have:=h1 m a1 a2 a3;have:=h2 (by(clear h1 h2 hq hx hy a1 a2 a3 a5 c4 this;omega));have:=srt_at hq c1 c2;(clear h1 h2 hq hx hy a1 a2 a3 c1 c2;omega)
theorem bey_F:(bey rk false key p i=true↔gAt rk p i<=rk key)/\(bey rk false key p i=false↔rk key<gAt rk p i):=by
 unfold bey;rw[if_neg Bool.false_ne_true];simp
theorem bey_T:(bey rk true key p i=true↔gAt rk p i<rk key)/\(bey rk true key p i=false↔rk key<=gAt rk p i):=by
 unfold bey;rw[if_pos rfl];simp
theorem DR (h:bey rk l key p i=true):gAt rk p i<=rk key:=by
 cases l
 ·exact bey_F.1.mp h
 ·exact Int.le_of_lt (bey_T.1.mp h)
theorem DS (h:bey rk l key p i=false):rk key<=gAt rk p i:=by
 cases l
 ·exact Int.le_of_lt (bey_F.2.mp h)
 ·exact bey_T.2.mp h
theorem GH (hp:Srt rk p.toList) (hij:i<=j) (hj:j<p.size) (h:bey rk l key p j=true):bey rk l key p i=true:=by
 have:=srt_at hp hij hj;cases l
 ·exact bey_F.1.mpr (Int.le_trans this (bey_F.1.mp h))
 ·exact bey_T.1.mpr (Int.lt_of_le_of_lt this (bey_T.1.mp h))
theorem rH {st:SortSt} (L:cu prog w A s κ rk ok) (hk:kindOf st=κ) (hkey:ok key) (hp:AllOk ok p) (hs:Srt rk p.toList) (hn:hint<n) (hsz:base+n<=p.size) (h:∀k,k<=n->(∀m,base<=m->m<base+k->gAt rk p m<=rk key)->(∀m,base+k<=m->m<base+n->rk key<=gAt rk p m)->Q (some k) st):wpS (model prog w) A E s (gallop' l key p base n hint) Q st:=
 iP L hk hkey hp hn hsz (λ_ _ hij hj=>GH hs (Nat.add_le_add_left hij _) (lt_of_lt_of_le (Nat.add_lt_add_left hj _) hsz)) λk h1 h2 h3=>h k h1
  (λm m1 m2=>by
   obtain⟨d,rfl⟩:=Nat.exists_eq_add_of_le m1;exact DR (h2 d (Nat.lt_of_add_lt_add_left m2)))
  λm m1 m2=>by
   obtain⟨d,rfl⟩:=Nat.exists_eq_add_of_le m1;rw[Nat.add_assoc]at m2⊢;exact DS (h3 _ (Nat.le_add_right _ _) (Nat.lt_of_add_lt_add_left m2))
section
variable {α β γ:Type} {Q:α->SortSt->Prop} {st:SortSt} {p q:StateT SortSt Sem α}
theorem bW (h1:c->wpS (model prog w) A E s p Q st) (h2:¬c->wpS (model prog w) A E s q Q st):wpS (model prog w) A E s (@ite _ c d p q) Q st:=by
 split
 ·exact h1 ‹_›
 ·exact h2 ‹_›
theorem bp {x y:Nat} {d} (h1:x=y->wpS (model prog w) A E s p Q st) (h2:x≠y->wpS (model prog w) A E s q Q st):wpS (model prog w) A E s (@ite _ ((x==y)=true) d p q) Q st:=
 bW (λe=>h1 (eq_of_beq e)) λe=>h2 λz=>e (beq_iff_eq.mpr z)
theorem xm {jp:PUnit->β->StateT SortSt Sem α} (h:∀z,wpS (model prog w) A E s (jp ⟨⟩ z) Q st):wpS (model prog w) A E s (@ite _ c d (jp ⟨⟩ x) (jp ⟨⟩ y)) Q st:=
 bW (λ_=>h _) λ_=>h _
theorem oj {jp:PUnit->β->γ->StateT SortSt Sem α} (P:β->γ->Prop) (hj:∀o i,P o i->wpS (model prog w) A E s (jp ⟨⟩ o i) Q st) (h:(∀o i,P o i->wpS (model prog w) A E s (jp ⟨⟩ o i) Q st)->wpS (model prog w) A E s p Q st):wpS (model prog w) A E s p Q st:=h hj
end
noncomputable def SV (rk:Keyed->Int) (a b:Array Keyed) (n:Nat) (out:Array Keyed) (i j:Nat):Prop:=MI rk a.toList b.toList out.toList i j/\i+1<a.size/\j<b.size/\n<=i+j
theorem SV.o (h:SV rk a b n out i j) (hm:m<=n):SV rk a b m out i j:=⟨h.1,h.2.1,h.2.2.1,Nat.le_trans hm h.2.2.2⟩
theorem nl1 (h:n<=i+j):n+1<=i+1+j:=by omega
theorem nl2 (h:n<=i+j) (h1:i<=i') (h2:j+1<=j'):n<=i'+1+j':=by omega
theorem nl3 {i n:Nat} (h:i<n):i+(n-i)=n:=by omega
theorem rJ {st:SortSt} (L:cu prog w A s κ rk ok) (hk:kindOf st=κ) (ha:AllOk ok a) (hb:AllOk ok b) (hA:Srt rk a.toList) (hB:Srt rk b.toList) (h1a:1<=a.size) (h1b:1<=b.size) (h0:gAt rk b 0<=gAt rk a 0) (hlast:∀m,m<b.size->gAt rk b m<=gAt rk a (a.size-1)) (h:∀r st',SG st st'->dt rk a b r->Q r st'):wpS (model prog w) A E s (mergeLo' a b) Q st:=by
 have dn1:∀ {out:Array Keyed} {ia ib:Nat},MI rk a.toList b.toList out.toList ia ib->ib=b.size->dt rk a b (out++a.extract ia a.size++b.extract ib b.size):=λM e=>M.done hA hB (by rw[hZ b (Nat.le_of_eq e.symm)];exact j7);have dn3:∀ {out:Array Keyed} {ia ib:Nat},MI rk a.toList b.toList out.toList ia ib->ia=a.size->dt rk a b (out++a.extract ia a.size++b.extract ib b.size):=λM e=>M.done hA hB (by rw[hZ a (Nat.le_of_eq e.symm)];exact j8);have dn2:∀ {out:Array Keyed} {ia ib:Nat},MI rk a.toList b.toList out.toList ia ib->ia+1=a.size->dt rk a b (out++b.extract ib b.size++a.extract ia a.size):=λM e=>M.done' hA hB λx hx y hy=>by
  obtain⟨m,_,m2,_,m4⟩:=j4 (rk:=rk) hx;obtain⟨m',k1,k2,_,k4⟩:=j4 (rk:=rk) hy;have:=hlast m m2;rw[show a.size-1=m' by(clear L hk ha hb hA hB h1a h1b h0 hlast h dn1 dn3 M hx hy m2 m4 k4 this;omega),m4,k4]at this;exact this
 obtain⟨y0,ey0,gy0,_⟩:=aU (rk:=rk) (a:=b) (i:=0) h1b;have M0:MI rk a.toList b.toList (#[y0]:Array Keyed).toList 0 1:=by
  have m0:MI rk a.toList b.toList (#[]:Array Keyed).toList 0 0:=⟨.refl _,List.Pairwise.nil,j8,j8⟩;exact m0.pB hB ey0 (kY hA λ_=>gy0▸h0)
 refine wpS_bind (wpS_lift (wpAny_rule ⟨rfl,?_⟩));refine wpS_bind (aH ey0 ?_);refine bp (λe=>wpS_pure (h _ _ (SG.refl _) (dn1 M0 e))) λq1=>?_;refine bp (λe=>wpS_pure (h _ _ (SG.refl _) (dn2 M0 e))) λq2=>?_;refine wpS_bind (wpS_get ?_);refine wpS_bind (wpS_mono (wpS_forRange (I:=λx c st'=>SG st st'/\∃out i j mg,c=(none,out,i,j,mg)/\SV rk a b x out i j)
  (Q:=λc st'=>SG st st'/\∃r z,c=(some r,z)/\dt rk a b r) ?_ ?_ ⟨SG.refl _,_,_,_,_,rfl,M0,Nat.lt_of_le_of_ne h1a q2,Nat.lt_of_le_of_ne h1b q1,Nat.zero_le _⟩) ?_)
 ·rintro x c st' _ hx ⟨sg,out,ia,ib,mg,rfl,M,b1,b2,hxx⟩;dsimp -zeta only;refine wpS_bind (wpS_mono (wpS_forRange (I:=λx1 c st'=>SG st st'/\∃out i j ac bc,c=(none,out,i,j,ac,bc)/\SV rk a b (ia+ib+x1) out i j)
   (Q:=λc st'=>SG st st'/\((∃r z,c=(some r,z)/\dt rk a b r)\/∃out i j ac bc,c=(none,out,i,j,ac,bc)/\SV rk a b (ia+ib+1) out i j)) ?_ ?_ ⟨sg,_,_,_,_,_,rfl,M,b1,b2,le_refl _⟩) ?_)
  ·rintro x1 c st1 _ hx1 ⟨sg,out,ja,jb,ac,bc,rfl,M,b1,b2,hxx⟩;have ww:ia+ib+1<=ia+ib+(x1+1):=Nat.add_le_add_left (Nat.le_add_left _ _) _;obtain⟨yb,eb,gb,_⟩:=aU (rk:=rk) (a:=b) b2;obtain⟨ya,ea,ga,_⟩:=aU (rk:=rk) (a:=a) (Nat.lt_of_succ_lt b1);refine wpS_bind (aH eb (wpS_bind (aH ea (wpS_bind (pR L (sg.1.trans hk) (hb _ _ eb) (ha _ _ ea) ?_)))));refine bW (λq=>?_) λq=>?_
   ·have M':=M.pB hB eb (kY hA λ_=>ga▸Int.le_of_lt (of_decide_eq_true q));refine wpS_bind (aH eb ?_);refine bp (λe=>wpS_pure ⟨sg,.inl ⟨_,_,rfl,dn1 M' e⟩⟩) λe=>?_;have V:SV rk a b (ia+ib+(x1+1)) _ _ _:=⟨M',b1,Nat.lt_of_le_of_ne b2 e,Nat.succ_le_succ hxx⟩;exact bW (λ_=>wpS_pure ⟨sg,.inr ⟨_,_,_,_,_,rfl,V.o ww⟩⟩) λ_=>wpS_pure ⟨sg,_,_,_,_,_,rfl,V⟩
   ·have M':=M.pA hA ea (kY hB λ_=>gb▸Int.not_lt.mp λz=>q (decide_eq_true z));refine wpS_bind (aH ea ?_);refine bp (λe=>wpS_pure ⟨sg,.inl ⟨_,_,rfl,dn2 M' e⟩⟩) λe=>?_;have V:SV rk a b (ia+ib+(x1+1)) _ _ _:=⟨M',Nat.lt_of_le_of_ne b1 e,b2,nl1 hxx⟩;exact bW (λ_=>wpS_pure ⟨sg,.inr ⟨_,_,_,_,_,rfl,V.o ww⟩⟩) λ_=>wpS_pure ⟨sg,_,_,_,_,_,rfl,V⟩
  ·rintro c st1 ⟨sg,out,ja,jb,ac,bc,rfl,V⟩;exact⟨sg,.inr ⟨_,_,_,_,_,rfl,V.o (Nat.add_le_add_left (by(clear L hk ha hb hA hB h1b h0 hlast h dn1 dn3 dn2 ey0 gy0 M0 q1 q2 hx sg M b1 b2 V;omega)) _)⟩⟩
  ·rintro c st1 ⟨sg,⟨r,z,rfl,g⟩|⟨out,ja,jb,ac,bc,rfl,V⟩⟩
   ·exact wpS_pure ⟨sg,r,_,rfl,g⟩
   ·refine wpS_bind (wpS_lift (wpAny_rule ⟨rfl,?_⟩));refine wpS_bind (wpS_mono (wpS_forRange (I:=λ_ c st'=>SG st st'/\∃out i j mg ac bc,c=(none,out,i,j,mg,ac,bc)/\SV rk a b (ia+ib+1) out i j)
     (Q:=λc st'=>SG st st'/\((∃r z,c=(some r,z)/\dt rk a b r)\/∃out i j mg ac bc,c=(none,out,i,j,mg,ac,bc)/\SV rk a b (ia+ib+1) out i j)) ?_ ?_ ⟨sg,_,_,_,_,_,_,rfl,V⟩) ?_)
    ·rintro x2 c st2 _ hx2 ⟨sg,out,ja,jb,mg,ac,bc,rfl,M,b1,b2,hxx2⟩;have b3:=Nat.lt_of_succ_lt b1;obtain⟨yb,eb,gb,_⟩:=aU (rk:=rk) (a:=b) b2;extract_lets r0 s0 o' s1 i' s2 j' s3 g' s4 c' d' jp;refine xm (jp:=jp) λmg'=>?_;dsimp -zeta+zetaDelta only;clear jp;refine wpS_bind (wpS_modify ?_);refine wpS_bind (aH eb (wpS_bind (rH L (sg.1.trans hk) (hb _ _ eb) ha hA (Nat.sub_pos_of_lt b3) (Nat.le_of_eq (nl3 b3)) λk hkn hlo hhi=>?_)));rw[nl3 b3]at hhi;have Mk:=M.eA (k:=k) hA (B9 (λm m1 m2 _=>hlo m m1 m2) (λ_=>Int.le_of_eq gb.symm) hB);dsimp -zeta only;extract_lets ac2 jp;refine oj (jp:=jp) (λo i=>MI rk a.toList b.toList o.toList i jb/\i+1<a.size/\ja<=i/\rk yb<=gAt rk a i) ?_ λhj=>bW (λqk=>?_) λqk=>?_
     ·rintro o i ⟨Mk,c1,c2,c3⟩;dsimp -zeta+zetaDelta only;clear jp;obtain⟨ya,ea,ga,_⟩:=aU (rk:=rk) (a:=a) (Nat.lt_of_succ_lt c1);have M2:=Mk.pB hB eb (kY hA λ_=>c3);refine wpS_bind (aH eb ?_);refine bp (λe=>wpS_pure ⟨sg,.inl ⟨_,_,rfl,dn1 M2 e⟩⟩) λe3=>?_;have b4:=Nat.lt_of_le_of_ne b2 e3;refine wpS_bind (aH ea (wpS_bind (rH L (sg.1.trans hk) (ha _ _ ea) hb hB (Nat.sub_pos_of_lt b4) (Nat.le_of_eq (nl3 b4)) λk1 hkn1 hlo1 hhi1=>?_)));rw[nl3 b4]at hhi1;dsimp -zeta only;extract_lets bc2 i2 jp;refine oj (jp:=jp) (λo j=>MI rk a.toList b.toList o.toList i j/\j<b.size/\jb+1<=j/\rk ya<=gAt rk b j) ?_ λhj=>bW (λqk=>?_) λqk=>?_
      ·rintro o j ⟨M3,d1,d2,d3⟩;have M4:=M3.pA hA ea (kY hB λ_=>d3);refine wpS_bind (aH ea ?_);refine bp (λe=>wpS_pure ⟨sg,.inl ⟨_,_,rfl,dn2 M4 e⟩⟩) λe=>?_;have V:SV rk a b (ia+ib+1) _ _ _:=⟨M4,Nat.lt_of_le_of_ne c1 e,d1,nl2 hxx2 c2 d2⟩;exact bW (λ_=>wpS_pure ⟨sg,.inr ⟨_,_,_,_,_,_,rfl,V⟩⟩) λ_=>wpS_pure ⟨sg,_,_,_,_,_,_,rfl,V⟩
      ·have M3:=M2.eB (k:=k1) hB (B9 (λm m1 m2 _=>hlo1 m m1 m2) (λ_=>Int.le_of_eq ga.symm) hA);exact bp (λe=>wpS_pure ⟨sg,.inl ⟨_,_,rfl,dn1 M3 e⟩⟩) λe=>hj _ _ ⟨M3,Nat.lt_of_le_of_ne (nl3 b4▸Nat.add_le_add_left hkn1 _) e,Nat.le_add_right _ _,hhi1 _ (le_refl _) (Nat.lt_of_le_of_ne (nl3 b4▸Nat.add_le_add_left hkn1 _) e)⟩
      ·rw[Nat.eq_zero_of_not_pos qk]at hhi1;exact hj _ _ ⟨M2,b4,le_refl _,hhi1 _ (le_refl _) b4⟩
     ·refine bp (λe=>wpS_pure ⟨sg,.inl ⟨_,_,rfl,dn2 Mk e⟩⟩) λe1=>?_;refine bp (λe=>wpS_pure ⟨sg,.inl ⟨_,_,rfl,dn3 Mk e⟩⟩) λe2=>?_;have b5:=Nat.lt_of_le_of_ne (nl3 b3▸Nat.add_le_add_left hkn _) e2;exact hj _ _ ⟨Mk,Nat.lt_of_le_of_ne b5 e1,Nat.le_add_right _ _,hhi _ (le_refl _) b5⟩
     ·rw[Nat.eq_zero_of_not_pos qk]at hhi;exact hj _ _ ⟨M,b1,le_refl _,hhi _ (le_refl _) b3⟩
    ·rintro c st2 ⟨sg,out,ja,jb,mg,ac,bc,rfl,V⟩;exact⟨sg,.inr ⟨_,_,_,_,_,_,rfl,V⟩⟩
    ·rintro c st2 ⟨sg,⟨r,z,rfl,g⟩|⟨out,ja,jb,mg,ac,bc,rfl,V⟩⟩
     ·exact wpS_pure ⟨sg,r,_,rfl,g⟩
     ·refine wpS_bind (wpS_modify ?_);exact wpS_pure ⟨sg,_,_,_,_,rfl,V.o (Nat.succ_le_succ hxx)⟩
 ·rintro c st' ⟨sg,out,ia,ib,mg,rfl,M,b1,b2,hxx⟩;rw[Nat.max_eq_right (Nat.zero_le _)]at hxx;(clear L hk ha hb hA hB h1a h1b h0 hlast h dn1 dn3 dn2 ey0 gy0 M0 q1 q2 sg M;omega)
 ·rintro c st' ⟨sg,r,z,rfl,g⟩;exact wpS_pure (h r _ sg g)
end
end L2
namespace L2
open PySem PySem.W PyProof.Rows
section
variable {prog:Program} {w:World} {A:Around} {E:Value->Shared->Prop} {s:Shared} {rk:Keyed->Int} {κ:SortKind} {ok:Keyed->Prop} {a b out:Array Keyed} {na nb k:Nat}
theorem tU (a:Array Keyed) (i:Nat):(a.extract 0 i).toList=a.toList.take i:=by
 rw[du,List.drop_zero,Nat.sub_zero]
theorem MH.pA (h:MH rk a.toList b.toList out.reverse.toList na nb) (h1:1<=na) (hA:Srt rk a.toList) (hy:a[na-1]?=some y) (hl:Le rk (b.toList.take nb) [y]):MH rk a.toList b.toList (out.push y).reverse.toList (na-1) nb:=by
 obtain⟨z,e1,_,_,e2⟩:=aU (rk:=rk) (Array.getElem?_eq_some_iff.mp hy).1;rw[hy]at e1;cases e1;rw[Nat.sub_add_cancel h1]at e2;have:=h.extA (Nat.sub_le na 1) hA (by rw[e2];exact hl);rw[e2]at this;rw[Array.toList_reverse,Array.toList_push,List.reverse_append];rw[Array.toList_reverse]at this;exact this
theorem MH.pB (h:MH rk a.toList b.toList out.reverse.toList na nb) (h1:1<=nb) (hB:Srt rk b.toList) (hy:b[nb-1]?=some y) (hl:Le rk (a.toList.take na) [y]):MH rk a.toList b.toList (out.push y).reverse.toList na (nb-1):=(h.swap.pA h1 hB hy hl).swap
theorem kZ (a:Array Keyed) (i j:Nat):(a.extract i j).toList=(a.toList.take j).drop i:=by
 rw[du,List.drop_take]
theorem MH.eA (h:MH rk a.toList b.toList out.reverse.toList na nb) (hk:k<=na) (hA:Srt rk a.toList) (hl:Le rk (b.toList.take nb) ((a.toList.take na).drop k)):MH rk a.toList b.toList (out++(a.extract k na).reverse).reverse.toList k nb:=by
 have:=h.extA hk hA hl;rw[Array.toList_reverse,Array.toList_append,Array.toList_reverse,List.reverse_append,List.reverse_reverse,kZ];rw[Array.toList_reverse]at this;exact this
theorem MH.eB (h:MH rk a.toList b.toList out.reverse.toList na nb) (hk:k<=nb) (hB:Srt rk b.toList) (hl:Le rk (a.toList.take na) ((b.toList.take nb).drop k)):MH rk a.toList b.toList (out++(b.extract k nb).reverse).reverse.toList na k:=by
 have:=h.extB hk hB hl;rw[Array.toList_reverse,Array.toList_append,Array.toList_reverse,List.reverse_append,List.reverse_reverse,kZ];rw[Array.toList_reverse]at this;exact this
theorem MH.done (h:MH rk a.toList b.toList out.reverse.toList na nb) (hA:Srt rk a.toList) (hB:Srt rk b.toList) (hl:Le rk (a.toList.take na) (b.toList.take nb)):dt rk a b (a.extract 0 na++b.extract 0 nb++out.reverse):=by
 have:=h.fin hA hB hl;unfold dt;rw[Array.toList_append,Array.toList_append,tU,tU];exact this
theorem MH.done' (h:MH rk a.toList b.toList out.reverse.toList na nb) (hA:Srt rk a.toList) (hB:Srt rk b.toList) (hl:Le rk (b.toList.take nb) (a.toList.take na)):dt rk a b (b.extract 0 nb++a.extract 0 na++out.reverse):=by
 have:=h.fin' hA hB hl;unfold dt;rw[Array.toList_append,Array.toList_append,tU,tU];exact this
theorem pS (hA:Srt rk a.toList) (hi:i<=a.size) (h:0<i->gAt rk a (i-1)<=rk y):Le rk (a.toList.take i) [y]:=λx hx z hz=>by
 cases mem_singleton.mp hz;obtain⟨m,h1,h2,_,h4⟩:=j5 (rk:=rk) hx;have:=srt_at hA (show m<=i-1 by(clear hA hi h hx hz h2 h4;omega)) (by(clear hA h hx hz h2 h4;omega));have:=h (by(clear hA hi h hx hz h2 h4 this;omega));(clear hA hi hx hz h2 this;omega)
theorem Cc (hj:j<=q.size) (h1:0<j->gAt rk q (j-1)<=v) (h2:∀m,k<=m->m<i->m<p.size->v<=gAt rk p m) (hq:Srt rk q.toList):Le rk (q.toList.take j) ((p.toList.take i).drop k):=λx hx y hy=>by
 obtain⟨m,a1,a2,_,a4⟩:=j5 (rk:=rk) hx;rw[<-kZ,du]at hy;obtain⟨m',c1,c2,c3,_,c5⟩:=oi (rk:=rk) hy;have:=srt_at hq (show m<=j-1 by(clear hj h1 h2 hq hx hy a2 a4 c1 c2 c3 c5;omega)) (by(clear h1 h2 hq hx hy a2 a4 c1 c2 c3 c5;omega));have:=h1 (by(clear hj h1 h2 hq hx hy a2 a4 c1 c2 c3 c5 this;omega));have:=h2 m' c1 (by(clear hj h1 h2 hq hx hy a1 a2 a4 c3 c5 this;omega)) c3;(clear hj h1 h2 hq hx hy a1 a2 c1 c2 c3;omega)
theorem tV {st:SortSt} (L:cu prog w A s κ rk ok) (hk:kindOf st=κ) (hkey:ok key) (hp:AllOk ok p) (hs:Srt rk p.toList) (hn:hint<n) (hsz:n<=p.size) (h:∀k,k<=n->(0<k->gAt rk p (k-1)<=rk key)->(∀m,k<=m->m<n->m<p.size->rk key<=gAt rk p m)->Q (some k) st):wpS (model prog w) A E s (gallop' l key p 0 n hint) Q st:=
 rH L hk hkey hp hs hn (by rw[Nat.zero_add];exact hsz) λk h1 h2 h3=>by
  rw[Nat.zero_add]at h2 h3;rw[Nat.zero_add]at h3;exact h k h1 (λz=>h2 _ (Nat.zero_le _) (Nat.sub_lt z Nat.one_pos)) λm m1 m2 _=>h3 m m1 m2
noncomputable def SH (rk:Keyed->Int) (a b:Array Keyed) (N x:Nat) (out:Array Keyed) (i j:Nat):Prop:=MH rk a.toList b.toList out.reverse.toList i j/\1<=i/\2<=j/\i<=a.size/\j<=b.size/\x+i+j<=N
section
variable {N x y i j i' j':Nat} {out':Array Keyed}
theorem SH.o (h:SH rk a b N x out i j) (hm:y<=x):SH rk a b N y out i j:=by
 obtain⟨M,h1,h2,h3,h4,h5⟩:=h;exact⟨M,h1,h2,h3,h4,by omega⟩
theorem SH.p (h:SH rk a b N x out i j) (M:MH rk a.toList b.toList out'.reverse.toList (i-1) j) (e:i-1≠0):SH rk a b N (x+1) out' (i-1) j:=by
 obtain⟨_,h1,h2,h3,h4,h5⟩:=h;exact⟨M,by omega,h2,by omega,h4,by omega⟩
theorem SH.q (h:SH rk a b N x out i j) (M:MH rk a.toList b.toList out'.reverse.toList i (j-1)) (e:j-1≠1):SH rk a b N (x+1) out' i (j-1):=by
 obtain⟨_,h1,h2,h3,h4,h5⟩:=h;exact⟨M,h1,by omega,h3,by omega,by omega⟩
theorem SH.c (h:SH rk a b N x out i j) (M:MH rk a.toList b.toList out'.reverse.toList (i'-1) j') (h1:i'<=i) (h2:j'<=j-1) (h3:2<=j') (e:i'-1≠0):SH rk a b N x out' (i'-1) j':=by
 obtain⟨_,_,_,h5,h6,h7⟩:=h;exact⟨M,by omega,h3,by omega,by omega,by omega⟩
theorem nh1 (h:i<=j) (e:¬j-i>0):i=j:=by omega
theorem nh2 (h:i≠1) (e:i≠0):2<=i:=by omega
theorem nh3 (h:1<=i) (e:i<=j):i-1<j:=by omega
theorem nh5 (h:x+i+j<=N) (e:1+i'+j'<=i+j):x+1+i'+j'<=N:=by omega
theorem nh4 (h:2<=i) (e:i-1≠1):2<=i-1:=by omega
end
theorem rK {st:SortSt} (L:cu prog w A s κ rk ok) (hk:kindOf st=κ) (ha:AllOk ok a) (hb:AllOk ok b) (hA:Srt rk a.toList) (hB:Srt rk b.toList) (h1a:1<=a.size) (h1b:1<=b.size) (h0:gAt rk b 0<=gAt rk a 0) (hlast:∀m,m<b.size->gAt rk b m<=gAt rk a (a.size-1)) (h:∀r st',SG st st'->dt rk a b r->Q r st'):wpS (model prog w) A E s (mergeHi' a b) Q st:=by
 have dn1:∀ {out:Array Keyed} {na nb:Nat},MH rk a.toList b.toList out.reverse.toList na nb->na=0->dt rk a b (a.extract 0 na++b.extract 0 nb++out.reverse):=λM e=>M.done hA hB (by rw[e,List.take_zero];exact j8);have dn3:∀ {out:Array Keyed} {na nb:Nat},MH rk a.toList b.toList out.reverse.toList na nb->nb=0->dt rk a b (a.extract 0 na++b.extract 0 nb++out.reverse):=λM e=>M.done hA hB (by rw[e,List.take_zero];exact j7);have dn2:∀ {out:Array Keyed} {na nb:Nat},MH rk a.toList b.toList out.reverse.toList na nb->nb=1->dt rk a b (b.extract 0 nb++a.extract 0 na++out.reverse):=λM e=>M.done' hA hB λx hx y hy=>by
  obtain⟨m,m1,m2,_,m4⟩:=j5 (rk:=rk) hx;obtain⟨m',k1,k2,_,k4⟩:=j5 (rk:=rk) hy;have:=srt_at hA (Nat.zero_le m') k2;rw[Nat.lt_one_iff.mp (Nat.lt_of_lt_of_eq m1 e)]at m4;rw[<-m4,<-k4];exact Int.le_trans h0 this
 obtain⟨y0,ey0,gy0,_⟩:=aU (rk:=rk) (a:=a) (nh3 h1a (le_refl _));have M0:MH rk a.toList b.toList (#[y0]:Array Keyed).reverse.toList (a.size-1) b.size:=by
  have m0:MH rk a.toList b.toList (#[]:Array Keyed).reverse.toList a.size b.size:=⟨by
   rw[hZ a (le_refl _),hZ b (le_refl _)];exact .refl _,List.Pairwise.nil,j7,j7⟩
  exact m0.pA h1a hA ey0 (pS hB (le_refl _) λz=>gy0▸hlast _ (Nat.sub_lt z Nat.one_pos))
 refine wpS_bind (wpS_lift (wpAny_rule ⟨rfl,?_⟩));refine wpS_bind (aH ey0 ?_);refine bp (λe=>wpS_pure (h _ _ (SG.refl _) (dn1 M0 e))) λq1=>?_;refine bp (λe=>wpS_pure (h _ _ (SG.refl _) (dn2 M0 e))) λq2=>?_;refine wpS_bind (wpS_get ?_);refine wpS_bind (wpS_mono (wpS_forRange (I:=λx c st'=>SG st st'/\∃i j out mg,c=(none,i,j,out,mg)/\SH rk a b (a.size+b.size) x out i j)
  (Q:=λc st'=>SG st st'/\∃r z,c=(some r,z)/\dt rk a b r) ?_ ?_ ⟨SG.refl _,_,_,_,_,rfl,M0,Nat.pos_of_ne_zero q1,nh2 q2 (Nat.ne_of_gt h1b),Nat.sub_le _ _,le_refl _,by(clear L hk ha hb hA hB h1a h1b h0 hlast h dn1 dn3 dn2 ey0 gy0 M0 q1 q2;omega)⟩) ?_)
 ·rintro x c st' _ hx ⟨sg,na,nb,out,mg,rfl,M,b1,b2,b3,b4,hxx⟩;dsimp -zeta only;refine wpS_bind (wpS_mono (wpS_forRange (I:=λx1 c st'=>SG st st'/\∃i j out ac bc,c=(none,i,j,out,ac,bc)/\SH rk a b (na+nb) x1 out i j)
   (Q:=λc st'=>SG st st'/\((∃r z,c=(some r,z)/\dt rk a b r)\/∃i j out ac bc,c=(none,i,j,out,ac,bc)/\SH rk a b (na+nb) 1 out i j)) ?_ ?_ ⟨sg,_,_,_,_,_,rfl,M,b1,b2,b3,b4,by rw[Nat.zero_add];exact le_refl _⟩) ?_)
  ·rintro x1 c st1 _ hx1 ⟨sg,ja,jb,out,ac,bc,rfl,V⟩;have ww:=Nat.le_add_left 1 x1;obtain⟨M,b1,b2,b3,b4,hxx⟩:=id V;obtain⟨yb,eb,gb,_⟩:=aU (rk:=rk) (a:=b) (nh3 (Nat.le_of_succ_le b2) b4);obtain⟨ya,ea,ga,_⟩:=aU (rk:=rk) (a:=a) (nh3 b1 b3);refine wpS_bind (aH eb (wpS_bind (aH ea (wpS_bind (pR L (sg.1.trans hk) (hb _ _ eb) (ha _ _ ea) ?_)))));refine bW (λq=>?_) λq=>?_
   ·have M':=M.pA b1 hA ea (pS hB b4 λ_=>gb▸Int.le_of_lt (of_decide_eq_true q));refine wpS_bind (aH ea ?_);refine bp (λe=>wpS_pure ⟨sg,.inl ⟨_,_,rfl,dn1 M' e⟩⟩) λe=>?_;exact bW (λ_=>wpS_pure ⟨sg,.inr ⟨_,_,_,_,_,rfl,(V.p M' e).o ww⟩⟩) λ_=>wpS_pure ⟨sg,_,_,_,_,_,rfl,V.p M' e⟩
   ·have M':=M.pB (Nat.le_of_succ_le b2) hB eb (pS hA b3 λ_=>ga▸Int.not_lt.mp λz=>q (decide_eq_true z));refine wpS_bind (aH eb ?_);refine bp (λe=>wpS_pure ⟨sg,.inl ⟨_,_,rfl,dn2 M' e⟩⟩) λe=>?_;exact bW (λ_=>wpS_pure ⟨sg,.inr ⟨_,_,_,_,_,rfl,(V.q M' e).o ww⟩⟩) λ_=>wpS_pure ⟨sg,_,_,_,_,_,rfl,V.q M' e⟩
  ·rintro c st1 ⟨sg,ja,jb,out,ac,bc,rfl,V⟩;exact⟨sg,.inr ⟨_,_,_,_,_,rfl,V.o (by(clear L hk ha hb hA hB h1b h0 hlast h dn1 dn3 dn2 ey0 gy0 M0 q1 q2 hx sg M b1 b2 b3 b4 V hxx;omega))⟩⟩
  ·rintro c st1 ⟨sg,⟨r,z,rfl,g⟩|⟨ja,jb,out,ac,bc,rfl,V⟩⟩
   ·exact wpS_pure ⟨sg,r,_,rfl,g⟩
   ·refine wpS_bind (wpS_lift (wpAny_rule ⟨rfl,?_⟩));refine wpS_bind (wpS_mono (wpS_forRange (I:=λ_ c st'=>SG st st'/\∃i j out mg ac bc,c=(none,i,j,out,mg,ac,bc)/\SH rk a b (na+nb) 1 out i j)
     (Q:=λc st'=>SG st st'/\((∃r z,c=(some r,z)/\dt rk a b r)\/∃i j out mg ac bc,c=(none,i,j,out,mg,ac,bc)/\SH rk a b (na+nb) 1 out i j)) ?_ ?_ ⟨sg,_,_,_,_,_,_,rfl,V⟩) ?_)
    ·rintro x2 c st2 _ hx2 ⟨sg,ja,jb,out,mg,ac,bc,rfl,V⟩;obtain⟨M,b1,b2,b3,b4,_⟩:=id V;have b5:=nh3 (Nat.le_of_succ_le b2) b4;obtain⟨yb,eb,gb,_⟩:=aU (rk:=rk) (a:=b) b5;extract_lets r0 s0 i' s1 j' s2 o' s3 g' s4 c' d' jp;refine xm (jp:=jp) λmg'=>?_;dsimp -zeta+zetaDelta only;clear jp;refine wpS_bind (wpS_modify ?_);refine wpS_bind (aH eb (wpS_bind (tV L (sg.1.trans hk) (hb _ _ eb) ha hA (nh3 b1 (le_refl _)) b3 λk hkn hlo hhi=>?_)));have Mk:=M.eA (k:=k) hkn hA (Cc b4 (λ_=>Int.le_of_eq gb) hhi hB);dsimp -zeta only;extract_lets ac2 k2 jp;refine oj (jp:=jp) (λi o=>MH rk a.toList b.toList o.reverse.toList i jb/\1<=i/\i<=ja/\gAt rk a (i-1)<=rk yb) ?_ λhj=>bW (λqk=>?_) λqk=>?_
     ·rintro i o ⟨Mk,c1,c2,c3⟩;dsimp -zeta+zetaDelta only;clear jp;obtain⟨ya,ea,ga,_⟩:=aU (rk:=rk) (a:=a) (nh3 c1 (Nat.le_trans c2 b3));have M2:=Mk.pB (Nat.le_of_succ_le b2) hB eb (pS hA (Nat.le_trans c2 b3) λ_=>c3);refine wpS_bind (aH eb ?_);refine bp (λe=>wpS_pure ⟨sg,.inl ⟨_,_,rfl,dn2 M2 e⟩⟩) λe3=>?_;have b6:=nh4 b2 e3;refine wpS_bind (aH ea (wpS_bind (tV L (sg.1.trans hk) (ha _ _ ea) hb hB (nh3 (Nat.le_of_succ_le b6) (le_refl _)) (Nat.le_of_lt b5) λk1 hkn1 hlo1 hhi1=>?_)));dsimp -zeta only;extract_lets bc2 i2 i3 jp;refine oj (jp:=jp) (λj o=>MH rk a.toList b.toList o.reverse.toList i j/\2<=j/\j<=jb-1/\gAt rk b (j-1)<=rk ya) ?_ λhj=>bW (λqk=>?_) λqk=>?_
      ·rintro j o ⟨M3,d1,d2,d3⟩;have M4:=M3.pA c1 hA ea (pS hB (Nat.le_trans d2 (Nat.le_of_lt b5)) λ_=>d3);refine wpS_bind (aH ea ?_);refine bp (λe=>wpS_pure ⟨sg,.inl ⟨_,_,rfl,dn1 M4 e⟩⟩) λe=>?_;exact bW (λ_=>wpS_pure ⟨sg,.inr ⟨_,_,_,_,_,_,rfl,V.c M4 c2 d2 d1 e⟩⟩) λ_=>wpS_pure ⟨sg,_,_,_,_,_,_,rfl,V.c M4 c2 d2 d1 e⟩
      ·have M3:=M2.eB (k:=k1) hkn1 hB (Cc (Nat.le_trans c2 b3) (λ_=>Int.le_of_eq ga) hhi1 hA);refine bp (λe=>wpS_pure ⟨sg,.inl ⟨_,_,rfl,dn2 M3 e⟩⟩) λe4=>?_;exact bp (λe=>wpS_pure ⟨sg,.inl ⟨_,_,rfl,dn3 M3 e⟩⟩) λe=>hj _ _ ⟨M3,nh2 e4 e,hkn1,hlo1 (Nat.pos_of_ne_zero e)⟩
      ·rw[nh1 hkn1 qk]at hlo1;exact hj _ _ ⟨M2,b6,le_refl _,hlo1 (Nat.le_of_succ_le b6)⟩
     ·exact bp (λe=>wpS_pure ⟨sg,.inl ⟨_,_,rfl,dn1 Mk e⟩⟩) λe=>hj _ _ ⟨Mk,Nat.pos_of_ne_zero e,hkn,hlo (Nat.pos_of_ne_zero e)⟩
     ·rw[nh1 hkn qk]at hlo;exact hj _ _ ⟨M,b1,le_refl _,hlo b1⟩
    ·rintro c st2 ⟨sg,ja,jb,out,mg,ac,bc,rfl,V⟩;exact⟨sg,.inr ⟨_,_,_,_,_,_,rfl,V⟩⟩
    ·rintro c st2 ⟨sg,⟨r,z,rfl,g⟩|⟨ja,jb,out,mg,ac,bc,rfl,M,b1,b2,b3,b4,hxx2⟩⟩
     ·exact wpS_pure ⟨sg,r,_,rfl,g⟩
     ·refine wpS_bind (wpS_modify ?_);exact wpS_pure ⟨sg,_,_,_,_,rfl,M,b1,b2,b3,b4,nh5 hxx hxx2⟩
 ·rintro c st' ⟨sg,na,nb,out,mg,rfl,M,b1,b2,b3,b4,hxx⟩;rw[Nat.max_eq_right (Nat.zero_le _)]at hxx;(clear L hk ha hb hA hB h1a h1b h0 hlast h dn1 dn3 dn2 ey0 gy0 M0 q1 q2 sg M;omega)
 ·rintro c st' ⟨sg,r,z,rfl,g⟩;exact wpS_pure (h r _ sg g)
end
end L2
namespace L2
open PySem PySem.W PyProof.Rows
section
variable {rk:Keyed->Int}
theorem pT:∀ (l:List Keyed) (c:Nat) (arr:Array Keyed) (o:Nat),o+c+l.length<=arr.size->((l.zipIdx c).foldl (λa x=>a.setIfInBounds (o+x.2) x.1) arr).toList=arr.toList.take (o+c)++l++arr.toList.drop (o+c+l.length)
 |[],c,arr,o,h=>by simp
 |x::l,c,arr,o,h=>by
  rw[length_cons]at h;rw[List.zipIdx_cons,List.foldl_cons,pT l (c+1) _ o (by rw[Array.size_setIfInBounds];omega)];rw[Array.toList_setIfInBounds];have hl:o+c<arr.toList.length:=by rw[Array.length_toList];omega
  have e1:(arr.toList.set (o+c) x).take (o+(c+1))=arr.toList.take (o+c)++[x]:=by
   rw[show o+(c+1)=(o+c)+1 by omega,List.take_add_one,List.take_set_of_le (le_refl _),List.getElem?_set_self hl];rfl
  have e2:(arr.toList.set (o+c) x).drop (o+(c+1)+l.length)=arr.toList.drop (o+c+(l.length+1)):=by
   rw[List.drop_set_of_lt (by(clear h hl e1;omega)),show o+(c+1)+l.length=o+c+(l.length+1)by(clear h hl e1;omega)]
  rw[e1,e2,length_cons];simp
def gL (rk:Keyed->Int) (l:List Keyed) (i:Nat):Int:=rk (l.getD i (Value.none,Value.none))
theorem jz (arr:Array Keyed) (i:Nat):gAt rk arr i=gL rk arr.toList i:=by
 unfold gAt gL;rw[Array.getD_eq_getD_getElem?,List.getD_eq_getElem?_getD,Array.getElem?_toList]
theorem xo {pre s post} (h:i<s.length):gL rk (pre++(s++post)) (pre.length+i)=gL rk s i:=by
 unfold gL;rw[List.getD_eq_getElem?_getD,List.getD_eq_getElem?_getD,getElem?_append_right (by omega),Nat.add_sub_cancel_left,getElem?_append_left h]
theorem gA (h:Srt rk l) (hij:i<=j) (hj:j<l.length):gL rk l i<=gL rk l j:=by
 have:=srt_at (rk:=rk) (a:=l.toArray) (i:=i) (j:=j) h hij (by simpa using hj);rw[jz,jz]at this;exact this
theorem fq (h:x∈l):∃i,i<l.length/\gL rk l i=rk x:=by
 obtain⟨i,hi⟩:=List.mem_iff_getElem?.mp h;exact⟨i,(List.getElem?_eq_some_iff.mp hi).1,by unfold gL;rw[List.getD_eq_getElem?_getD,hi];rfl⟩
theorem k9 {pre s post:List Keyed} (h:k<=s.length):(pre++(s++post)).take (pre.length+k)=pre++s.take k:=by
 rw[List.take_append,List.take_of_length_le (by omega),Nat.add_sub_cancel_left,List.take_append,Nat.sub_eq_zero_of_le h,List.take_zero,List.append_nil]
theorem xp {pre s post:List Keyed} (h:k<=s.length):(pre++(s++post)).drop (pre.length+k)=s.drop k++post:=by
 rw[List.drop_append,List.drop_of_length_le (by omega),Nat.add_sub_cancel_left,List.drop_append,Nat.sub_eq_zero_of_le h,List.drop_zero,List.nil_append]
end
section
variable {prog:Program} {w:World} {A:Around} {E:Value->Shared->Prop} {s:Shared} {rk:Keyed->Int} {κ:SortKind} {ok:Keyed->Prop}
theorem DT {st} (h:Q ⟨⟩ x):wpS M A E s (set x:StateT SortSt Sem PUnit) Q st:=by
 unfold wpS;rw[StateT.run_set];exact wpAny_pure ⟨rfl,h⟩
theorem AllOk.ext (h:AllOk ok a) (i j:Nat):AllOk ok (a.extract i j):=λm x hx=>by
 have:x∈(a.extract i j).toList:=by rw[Array.mem_toList_iff];exact Array.mem_of_getElem? hx
 rw[du]at this;have h2:=List.mem_of_mem_drop (List.mem_of_mem_take this);rw[Array.mem_toList_iff]at h2;obtain⟨m',hm'⟩:=Array.mem_iff_getElem?.mp h2;exact h m' x hm'
noncomputable abbrev xq (p:Array (Nat×Nat×Nat)) (i sa n pw:Nat):Array (Nat×Nat×Nat):=(p.setIfInBounds i (sa,n,pw)).eraseIdxIfInBounds (i+1)
theorem rL {st:SortSt} {pre s1 s2 post} (L:cu prog w A s κ rk ok) (hk:kindOf st=κ) (hf:failedOf st=none) (ha:AllOk ok (arrOf st)) (hd:(arrOf st).toList=pre++(s1++(s2++post))) (p1:(pendingOf st)[i]?=some (pre.length,s1.length,pw)) (p2:(pendingOf st)[i+1]?=some (pre.length+s1.length,s2.length,pw2)) (n1:1<=s1.length) (n2:1<=s2.length) (r1:Srt rk s1) (r2:Srt rk s2) (h:∀ (st':SortSt) (m:List Keyed),kindOf st'=κ->failedOf st'=none->pendingOf st'=xq (pendingOf st) i pre.length (s1.length+s2.length) pw->(arrOf st').toList=pre++(m++post)->m.Perm (s1++s2)->Srt rk m->Q true st'):wpS (model prog w) A E s (mergeAt' i) Q st:=by
 have hsz:(arrOf st).size=pre.length+(s1.length+(s2.length+post.length)):=by rw[<-Array.length_toList,hd];simp
 have g1:∀j,j<s1.length->gAt rk (arrOf st) (pre.length+j)=gL rk s1 j:=λj hj=>by rw[jz,hd,xo hj]
 have g2:∀j,j<s2.length->gAt rk (arrOf st) (pre.length+s1.length+j)=gL rk s2 j:=λj hj=>by
  rw[jz,hd,<-List.append_assoc,<-length_append,xo hj]
 refine wpS_bind (wpS_get ?_);have p1':(PyProof.Rows.pendingOf st)[i]?=some (pre.length,s1.length,pw):=p1;have p2':(PyProof.Rows.pendingOf st)[i+1]?=some (pre.length+s1.length,s2.length,pw2):=p2;dsimp only;rw[p1',p2'];dsimp only;have b0:pre.length+s1.length<(arrOf st).size:=by(clear L hk hf ha hd p1 p2 n1 r1 r2 h g1 g2 p1' p2';omega)
 obtain⟨yb,eb,gb,_⟩:=aU (rk:=rk) (a:=arrOf st) b0;have gb0:gL rk s2 0=rk yb:=by rw[<-g2 0 (by(clear L hk hf ha hd p1 p2 n1 r1 r2 h hsz g1 g2 p1' p2' b0 eb gb;omega)),Nat.add_zero];exact gb
 refine wpS_bind (DT ?_);refine wpS_bind (aH eb (wpS_bind (iP L hk (ha _ _ eb) ha (by(clear L hk hf ha hd p1 p2 n2 r1 r2 h hsz g1 g2 p1' p2' b0 eb gb gb0;omega)) (show pre.length+s1.length<=(arrOf st).size by(clear L hk hf ha hd p1 p2 n1 n2 r1 r2 h g1 g2 p1' p2' b0 eb gb gb0;omega)) (λx y hxy hy hbe=>?_) λk hkn hlo hhi=>?_)))
 ·have e1:=bey_F.1.mp hbe;rw[g1 y hy]at e1;refine bey_F.1.mpr ?_;rw[g1 x (by(clear L hk hf ha hd p1 p2 n1 n2 r1 r2 h hsz g1 g2 p1' p2' b0 eb gb gb0 hbe e1;omega))];exact Int.le_trans (gA r1 hxy hy) e1
 dsimp only;have f1:∀j,j<k->gL rk s1 j<=rk yb:=λj hj=>by rw[<-g1 j (by(clear L hk hf ha hd p1 p2 n1 n2 r1 r2 h hsz g1 g2 p1' p2' b0 eb gb gb0 hlo hhi;omega))];exact bey_F.1.mp (hlo j hj)
 have f2:∀j,k<=j->j<s1.length->rk yb<gL rk s1 j:=λj hj hj2=>by rw[<-g1 j hj2];exact bey_F.2.mp (hhi j hj hj2)
 have join:gL rk s1 (s1.length-1)<=rk yb->Srt rk (s1++s2):=λhj=>r1.app r2 λx hx y hy=>by
  obtain⟨a1,a2,a3⟩:=fq (rk:=rk) hx;obtain⟨c1,c2,c3⟩:=fq (rk:=rk) hy;have:=gA r1 (show a1<=s1.length-1 by(clear L hk hf ha hd p1 p2 n1 n2 r1 r2 h hsz g1 g2 p1' p2' b0 eb gb gb0 hkn hlo hhi f1 f2 hj hx hy a3 c2 c3;omega)) (by(clear L hk hf ha hd p1 p2 n2 r1 r2 h hsz g1 g2 p1' p2' b0 eb gb gb0 hkn hlo hhi f1 f2 hj hx hy a2 a3 c2 c3;omega));have:=gA r2 (Nat.zero_le c1) c2;(clear L hk hf ha hd p1 p2 n1 n2 r1 r2 h hsz g1 g2 p1' p2' b0 eb gb hkn hlo hhi f1 f2 hx hy a2 c2;omega)
 by_cases q1:s1.length-k=0
 ·rw[if_pos (by simpa using q1)];exact wpS_pure (h _ (s1++s2) hk hf rfl (by rw[List.append_assoc];exact hd) (.refl _) (join (f1 _ (by(clear L hk hf ha hd p1 p2 n2 r1 r2 h hsz g1 g2 p1' p2' b0 eb gb gb0 hkn hlo hhi f1 f2 join;omega)))))
 rw[if_neg (by simpa using q1)];have hix:pre.length+k+(s1.length-k)-1=pre.length+(s1.length-1):=by(clear L hk hf ha hd p1 p2 n2 r1 r2 h hsz g1 g2 p1' p2' b0 eb gb gb0 hlo hhi f1 f2 join q1;omega)
 rw[hix];obtain⟨ya,ea,ga,_⟩:=aU (rk:=rk) (a:=arrOf st) (i:=pre.length+(s1.length-1)) (by(clear L hk hf ha hd p1 p2 n2 r1 r2 h g1 g2 p1' p2' b0 eb gb gb0 hkn hlo hhi f1 f2 join q1 hix;omega));rw[g1 _ (by(clear L hk hf ha hd p1 p2 n2 r1 r2 h hsz g1 g2 p1' p2' b0 eb gb gb0 hkn hlo hhi f1 f2 join q1 hix ea ga;omega))]at ga;refine wpS_bind (aH ea (wpS_bind (iP L hk (ha _ _ ea) ha (by(clear L hk hf ha hd p1 p2 n1 r1 r2 h hsz g1 g2 p1' p2' b0 eb gb gb0 hkn hlo hhi f1 f2 join q1 hix ea ga;omega)) (show pre.length+s1.length+s2.length<=(arrOf st).size by(clear L hk hf ha hd p1 p2 n1 n2 r1 r2 h g1 g2 p1' p2' b0 eb gb gb0 hkn hlo hhi f1 f2 join q1 hix ea ga;omega)) (λx y hxy hy hbe=>?_) λnb hnb hlo2 hhi2=>?_)))
 ·have e1:=bey_T.1.mp hbe;rw[g2 y hy]at e1;refine bey_T.1.mpr ?_;rw[g2 x (by(clear L hk hf ha hd p1 p2 n1 n2 r1 r2 h hsz g1 g2 p1' p2' b0 eb gb gb0 hkn hlo hhi f1 f2 join q1 hix ea ga hbe e1;omega))];exact Int.lt_of_le_of_lt (gA r2 hxy hy) e1
 dsimp only;have f3:∀j,j<nb->gL rk s2 j<rk ya:=λj hj=>by rw[<-g2 j (by(clear L hk hf ha hd p1 p2 n1 n2 r1 r2 h hsz g1 g2 p1' p2' b0 eb gb gb0 hkn hlo hhi f1 f2 join q1 hix ea ga hlo2 hhi2;omega))];exact bey_T.1.mp (hlo2 j hj)
 have f4:∀j,nb<=j->j<s2.length->rk ya<=gL rk s2 j:=λj hj hj2=>by rw[<-g2 j hj2];exact bey_T.2.mp (hhi2 j hj hj2)
 by_cases q2:nb=0
 ·rw[if_pos (by simpa using q2)];exact wpS_pure (h _ (s1++s2) hk hf rfl (by rw[List.append_assoc];exact hd) (.refl _) (join (by rw[ga,<-gb0];exact f4 0 (by(clear L hk hf ha hd p1 p2 n1 n2 r1 r2 h hsz g1 g2 p1' p2' b0 eb gb gb0 hkn hlo hhi f1 f2 join q1 hix ea ga hnb hlo2 hhi2 f3 f4;omega)) (by(clear L hk hf ha hd p1 p2 n1 r1 r2 h hsz g1 g2 p1' p2' b0 eb gb gb0 hkn hlo hhi f1 f2 join q1 hix ea ga hnb hlo2 hhi2 f3 f4 q2;omega)))))
 rw[if_neg (by simpa using q2)];have xl:((arrOf st).extract (pre.length+k) (pre.length+s1.length)).toList=s1.drop k:=by
  rw[kZ,hd,show pre.length+s1.length=pre.length+s1.length from rfl,k9 (le_refl _),List.take_length,List.drop_append,List.drop_of_length_le (by(clear L hk hf ha hd p1 p2 n1 n2 r1 r2 h hsz g1 g2 p1' p2' b0 eb gb gb0 hkn hlo hhi f1 f2 join q1 hix ea ga hnb hlo2 hhi2 f3 f4 q2;omega)),Nat.add_sub_cancel_left,List.nil_append]
 have yl:((arrOf st).extract (pre.length+s1.length) (pre.length+s1.length+nb)).toList=s2.take nb:=by
  rw[kZ,hd,<-List.append_assoc,<-length_append,k9 hnb,List.drop_append,List.drop_of_length_le (le_refl _),Nat.sub_self,List.drop_zero,List.nil_append]
 have xs:((arrOf st).extract (pre.length+k) (pre.length+s1.length)).size=s1.length-k:=by rw[<-Array.length_toList,xl,List.length_drop]
 have ys:((arrOf st).extract (pre.length+s1.length) (pre.length+s1.length+nb)).size=nb:=by rw[<-Array.length_toList,yl,List.length_take];(clear L hk hf ha hd p1 p2 n1 n2 r1 r2 h hsz g1 g2 p1' p2' b0 eb gb gb0 hkn hlo hhi f1 f2 join q1 hix ea ga hlo2 hhi2 f3 f4 q2 xl yl xs;omega)
 have gx:∀j,gAt rk ((arrOf st).extract (pre.length+k) (pre.length+s1.length)) j=gL rk s1 (k+j):=λj=>by
  rw[jz,xl];unfold gL;rw[List.getD_eq_getElem?_getD,List.getD_eq_getElem?_getD,List.getElem?_drop]
 have gy:∀j,j<nb->gAt rk ((arrOf st).extract (pre.length+s1.length) (pre.length+s1.length+nb)) j=gL rk s2 j:=λj hj=>by
  rw[jz,yl];unfold gL;rw[List.getD_eq_getElem?_getD,List.getD_eq_getElem?_getD,List.getElem?_take_of_lt hj]
 have h0:gAt rk ((arrOf st).extract (pre.length+s1.length) (pre.length+s1.length+nb)) 0<=gAt rk ((arrOf st).extract (pre.length+k) (pre.length+s1.length)) 0:=by
  rw[gx,gy 0 (by(clear L hk hf ha hd p1 p2 n1 n2 r1 r2 h hsz g1 g2 p1' p2' b0 eb gb gb0 hkn hlo hhi f1 f2 join q1 hix ea ga hnb hlo2 hhi2 f3 f4 xl yl xs ys gx gy;omega)),gb0];exact Int.le_of_lt (f2 (k+0) (by(clear L hk hf ha hd p1 p2 n1 n2 r1 r2 h hsz g1 g2 p1' p2' b0 eb gb gb0 hkn hlo hhi f1 f2 join q1 hix ea ga hnb hlo2 hhi2 f3 f4 q2 xl yl xs ys gx gy;omega)) (by(clear L hk hf ha hd p1 p2 n1 n2 r1 r2 h hsz g1 g2 p1' p2' b0 eb gb gb0 hkn hlo hhi f1 f2 join hix ea ga hnb hlo2 hhi2 f3 f4 q2 xl yl xs ys gx gy;omega)))
 have hl:∀m,m<((arrOf st).extract (pre.length+s1.length) (pre.length+s1.length+nb)).size->gAt rk ((arrOf st).extract (pre.length+s1.length) (pre.length+s1.length+nb)) m<=gAt rk ((arrOf st).extract (pre.length+k) (pre.length+s1.length)) (((arrOf st).extract (pre.length+k) (pre.length+s1.length)).size-1):=λm hm=>by
  rw[ys]at hm;rw[gx,xs,gy m hm,show k+(s1.length-k-1)=s1.length-1 by(clear L hk hf ha hd p1 p2 n1 n2 r1 r2 h hsz g1 g2 p1' p2' b0 eb gb gb0 hkn hlo hhi f1 f2 join hix ea ga hnb hlo2 hhi2 f3 f4 q2 xl yl xs ys gx gy h0 hm;omega),ga];exact Int.le_of_lt (f3 m hm)
 have sx:Srt rk ((arrOf st).extract (pre.length+k) (pre.length+s1.length)).toList:=by rw[xl];exact r1.drop k
 have sy:Srt rk ((arrOf st).extract (pre.length+s1.length) (pre.length+s1.length+nb)).toList:=by rw[yl];exact r2.take nb
 have fin:∀ (r:Array Keyed) (st2:SortSt),SG st st2\/True->dt rk ((arrOf st).extract (pre.length+k) (pre.length+s1.length)) ((arrOf st).extract (pre.length+s1.length) (pre.length+s1.length+nb)) r->(r.toList.zipIdx.foldl (λa x=>a.setIfInBounds (pre.length+k+x.2) x.1) (arrOf st)).toList=pre++((s1.take k++(r.toList++s2.drop nb))++post)/\(s1.take k++(r.toList++s2.drop nb)).Perm (s1++s2)/\Srt rk (s1.take k++(r.toList++s2.drop nb)):=λr _ _ g=>by
  obtain⟨pm,sr⟩:=g;rw[xl,yl]at pm;have rl:r.toList.length=s1.length-k+nb:=by rw[pm.length_eq,length_append,List.length_drop,List.length_take];(clear L hk hf ha hd p1 p2 n1 n2 r1 r2 h hsz g1 g2 p1' p2' b0 eb gb gb0 hkn hlo hhi f1 f2 join q1 hix ea ga hlo2 hhi2 f3 f4 q2 xl yl xs ys gx gy h0 hl sx sy pm sr;omega)
  have leX:∀z∈r.toList,z∈s1.drop k\/z∈s2.take nb:=λz hz=>mem_append.mp (pm.mem_iff.mp hz);have leF:Le rk (s1.take k) r.toList:=λx hx y hy=>by
   have hx':rk x<=rk yb:=by
    obtain⟨c1,c2,c3⟩:=fq (rk:=rk) hx;rw[List.length_take]at c2;have:=f1 c1 (by(clear L hk hf ha hd p1 p2 n1 n2 r1 r2 h hsz g1 g2 p1' p2' b0 eb gb gb0 hkn hlo hhi f1 f2 join q1 hix ea ga hnb hlo2 hhi2 f3 f4 q2 xl yl xs ys gx gy h0 hl sx sy pm sr rl leX hx hy c3;omega));have e:gL rk (s1.take k) c1=gL rk s1 c1:=by unfold gL;rw[List.getD_eq_getElem?_getD,List.getD_eq_getElem?_getD,List.getElem?_take_of_lt (by(clear L hk hf ha hd p1 p2 n1 n2 r1 r2 h hsz g1 g2 p1' p2' b0 eb gb gb0 hkn hlo hhi f1 f2 join q1 hix ea ga hnb hlo2 hhi2 f3 f4 q2 xl yl xs ys gx gy h0 hl sx sy pm sr rl leX hx hy c3 this;omega))]
    (clear L hk hf ha hd p1 p2 n1 n2 r1 r2 h hsz g1 g2 p1' p2' b0 eb gb gb0 hkn hlo hhi f1 f2 join q1 hix ea ga hnb hlo2 hhi2 f3 f4 q2 xl yl xs ys gx gy h0 hl sx sy pm sr rl leX hx hy c2;omega)
   rcases leX y hy with q|q
   ·exact r1.parts k x hx y q
   ·obtain⟨c1,c2,c3⟩:=fq (rk:=rk) (List.mem_of_mem_take q);have:=gA r2 (Nat.zero_le c1) c2;(clear L hk hf ha hd p1 p2 n1 n2 r1 r2 h hsz g1 g2 p1' p2' b0 eb gb hkn hlo hhi f1 f2 join q1 hix ea ga hnb hlo2 hhi2 f3 f4 q2 xl yl xs ys gx gy h0 hl sx sy pm sr rl leX hx hy q c2;omega)
  have leT:Le rk r.toList (s2.drop nb):=λx hx y hy=>by
   rcases leX x hx with q|q
   ·obtain⟨c1,c2,c3⟩:=fq (rk:=rk) (List.mem_of_mem_drop q);have:=gA r1 (show c1<=s1.length-1 by(clear L hk hf ha hd p1 p2 n1 n2 r1 r2 h hsz g1 g2 p1' p2' b0 eb gb gb0 hkn hlo hhi f1 f2 join q1 hix ea ga hnb hlo2 hhi2 f3 f4 q2 xl yl xs ys gx gy h0 hl sx sy pm sr rl leX leF hx hy q c3;omega)) (by(clear L hk hf ha hd p1 p2 n2 r1 r2 h hsz g1 g2 p1' p2' b0 eb gb gb0 hkn hlo hhi f1 f2 join q1 hix ea ga hnb hlo2 hhi2 f3 f4 q2 xl yl xs ys gx gy h0 hl sx sy pm sr rl leX leF hx hy q c2 c3;omega));obtain⟨d1,d2,d3⟩:=fq (rk:=rk) hy;rw[List.length_drop]at d2;have e:gL rk (s2.drop nb) d1=gL rk s2 (nb+d1):=by unfold gL;rw[List.getD_eq_getElem?_getD,List.getD_eq_getElem?_getD,List.getElem?_drop]
    have:=f4 (nb+d1) (by(clear L hk hf ha hd p1 p2 n1 n2 r1 r2 h hsz g1 g2 p1' p2' b0 eb gb gb0 hkn hlo hhi f1 f2 join q1 hix ea ga hnb hlo2 hhi2 f3 f4 q2 xl yl xs ys gx gy h0 hl sx sy pm sr rl leX leF hx hy q c2 c3 this d2 d3 e;omega)) (by(clear L hk hf ha hd p1 p2 n1 n2 r1 r2 h hsz g1 g2 p1' p2' b0 eb gb gb0 hkn hlo hhi f1 f2 join q1 hix ea ga hnb hlo2 hhi2 f3 f4 q2 xl yl xs ys gx gy h0 hl sx sy pm sr rl leX leF hx hy q c2 c3 this d3 e;omega));(clear L hk hf ha hd p1 p2 n1 n2 r1 r2 h hsz g1 g2 p1' p2' b0 eb gb gb0 hkn hlo hhi f1 f2 join q1 hix ea hnb hlo2 hhi2 f3 f4 q2 xl yl xs ys gx gy h0 hl sx sy pm sr rl leX leF hx hy q c2 d2;omega)
   ·exact r2.parts nb x q y hy
  refine⟨?_,?_,?_⟩
  ·have:=pT r.toList 0 (arrOf st) (pre.length+k) (by rw[rl];(clear L hk hf ha hd p1 p2 n1 n2 r1 r2 h g1 g2 p1' p2' b0 eb gb gb0 hlo hhi f1 f2 join q1 hix ea ga hlo2 hhi2 f3 f4 q2 xl yl xs ys gx gy h0 hl sx sy pm sr rl leX leF leT;omega));rw[Nat.add_zero]at this;rw[this,hd,k9 (by(clear L hk hf ha hd p1 p2 n1 n2 r1 r2 h hsz g1 g2 p1' p2' b0 eb gb gb0 hlo hhi f1 f2 join q1 hix ea ga hnb hlo2 hhi2 f3 f4 q2 xl yl xs ys gx gy h0 hl sx sy pm sr rl leX leF leT this;omega)),rl];rw[show pre.length+k+(s1.length-k+nb)=(pre++s1).length+nb by rw[length_append];(clear L hk hf ha hd p1 p2 n1 n2 r1 r2 h hsz g1 g2 p1' p2' b0 eb gb gb0 hlo hhi f1 f2 join q1 hix ea ga hnb hlo2 hhi2 f3 f4 q2 xl yl xs ys gx gy h0 hl sx sy pm sr rl leX leF leT this;omega),<-List.append_assoc pre,xp hnb];simp[List.append_assoc]
  ·have e1:(s1.take k++(r.toList++s2.drop nb)).Perm (s1.take k++((s1.drop k++s2.take nb)++s2.drop nb)):=(pm.append_right _).append_left _;refine e1.trans ?_;rw[List.append_assoc,List.take_append_drop,<-List.append_assoc,List.take_append_drop]
  ·refine(r1.take k).app (sr.app (r2.drop nb) leT) (leF.appR λx hx y hy=>?_);have hx':rk x<=rk yb:=by
    obtain⟨c1,c2,c3⟩:=fq (rk:=rk) hx;rw[List.length_take]at c2;have:=f1 c1 (by(clear L hk hf ha hd p1 p2 n1 n2 r1 r2 h hsz g1 g2 p1' p2' b0 eb gb gb0 hkn hlo hhi f1 f2 join q1 hix ea ga hnb hlo2 hhi2 f3 f4 q2 xl yl xs ys gx gy h0 hl sx sy pm sr rl leX leF leT hx hy c3;omega));have e:gL rk (s1.take k) c1=gL rk s1 c1:=by unfold gL;rw[List.getD_eq_getElem?_getD,List.getD_eq_getElem?_getD,List.getElem?_take_of_lt (by(clear L hk hf ha hd p1 p2 n1 n2 r1 r2 h hsz g1 g2 p1' p2' b0 eb gb gb0 hkn hlo hhi f1 f2 join q1 hix ea ga hnb hlo2 hhi2 f3 f4 q2 xl yl xs ys gx gy h0 hl sx sy pm sr rl leX leF leT hx hy c3 this;omega))]
    (clear L hk hf ha hd p1 p2 n1 n2 r1 r2 h hsz g1 g2 p1' p2' b0 eb gb gb0 hkn hlo hhi f1 f2 join q1 hix ea ga hnb hlo2 hhi2 f3 f4 q2 xl yl xs ys gx gy h0 hl sx sy pm sr rl leX leF leT hx hy c2;omega)
   obtain⟨c1,c2,c3⟩:=fq (rk:=rk) (List.mem_of_mem_drop hy);have:=gA r2 (Nat.zero_le c1) c2;(clear L hk hf ha hd p1 p2 n1 n2 r1 r2 h hsz g1 g2 p1' p2' b0 eb gb hkn hlo hhi f1 f2 join q1 hix ea ga hnb hlo2 hhi2 f3 f4 q2 xl yl xs ys gx gy h0 hl sx sy pm sr rl leX leF leT hx hy c2;omega)
 by_cases q3:s1.length-k<=nb
 ·rw[if_pos q3];refine wpS_bind (rJ L hk (ha.ext _ _) (ha.ext _ _) sx sy (by rw[xs];(clear L hk hf ha hd p1 p2 n1 n2 r1 r2 h hsz g1 g2 p1' p2' b0 eb gb gb0 hkn hlo hhi f1 f2 join hix ea ga hnb hlo2 hhi2 f3 f4 q2 xl yl xs ys gx gy h0 hl sx sy fin q3;omega)) (by rw[ys];(clear L hk hf ha hd p1 p2 n1 n2 r1 r2 h hsz g1 g2 p1' p2' b0 eb gb gb0 hkn hlo hhi f1 f2 join q1 hix ea ga hnb hlo2 hhi2 f3 f4 xl yl xs ys gx gy h0 hl sx sy fin q3;omega)) h0 hl λr st2 sg g=>?_);obtain⟨z1,z2,z3⟩:=fin r st2 (.inr trivial) g;refine wpS_bind (wpS_modify (wpS_bind (wpS_get ?_)));obtain⟨w1,w2,w3,w4⟩:=sg;have hq:=h (SortSt.mk' (kindOf st2) (r.toList.zipIdx.foldl (λa x=>a.setIfInBounds (pre.length+k+x.2) x.1) (arrOf st2)) (pendingOf st2) (gallopOf st2) (failedOf st2)) _ (w1.trans hk) (w4.trans hf) w3 (by rw[show arrOf st2=arrOf st from w2];exact z1) z2 z3;have hn:(failedOf st2).isNone=true:=by rw[show failedOf st2=none from w4.trans hf];rfl
  refine wpS_pure ?_;show Q (failedOf st2).isNone _;rw[hn];exact hq
 ·rw[if_neg q3];refine wpS_bind (rK L hk (ha.ext _ _) (ha.ext _ _) sx sy (by rw[xs];(clear L hk hf ha hd p1 p2 n1 n2 r1 r2 h hsz g1 g2 p1' p2' b0 eb gb gb0 hkn hlo hhi f1 f2 join hix ea ga hnb hlo2 hhi2 f3 f4 q2 xl yl xs ys gx gy h0 hl sx sy fin q3;omega)) (by rw[ys];(clear L hk hf ha hd p1 p2 n1 n2 r1 r2 h hsz g1 g2 p1' p2' b0 eb gb gb0 hkn hlo hhi f1 f2 join q1 hix ea ga hnb hlo2 hhi2 f3 f4 xl yl xs ys gx gy h0 hl sx sy fin q3;omega)) h0 hl λr st2 sg g=>?_);obtain⟨z1,z2,z3⟩:=fin r st2 (.inr trivial) g;refine wpS_bind (wpS_modify (wpS_bind (wpS_get ?_)));obtain⟨w1,w2,w3,w4⟩:=sg;have hq:=h (SortSt.mk' (kindOf st2) (r.toList.zipIdx.foldl (λa x=>a.setIfInBounds (pre.length+k+x.2) x.1) (arrOf st2)) (pendingOf st2) (gallopOf st2) (failedOf st2)) _ (w1.trans hk) (w4.trans hf) w3 (by rw[show arrOf st2=arrOf st from w2];exact z1) z2 z3;have hn:(failedOf st2).isNone=true:=by rw[show failedOf st2=none from w4.trans hf];rfl
  refine wpS_pure ?_;show Q (failedOf st2).isNone _;rw[hn];exact hq
end
end L2
namespace L2
open PySem PySem.W PyProof.Rows
section
variable {prog:Program} {w:World} {A:Around} {E:Value->Shared->Prop} {s:Shared} {rk:Keyed->Int} {κ:SortKind} {ok:Keyed->Prop}
structure SK (κ:SortKind) (ok:Keyed->Prop) (a0:Array Keyed) (p0:Array (Nat×Nat×Nat)) (lo:Nat) (st:SortSt):Prop where
 kd:kindOf st=κ
 fl:failedOf st=none
 pd:pendingOf st=p0
 pm:(arrOf st).Perm a0
 low:∀m:Nat,m<lo->(arrOf st)[m]?=a0[m]?
 ok:AllOk ok (arrOf st)
noncomputable def UpF (rk:Keyed->Int) (arr:Array Keyed) (lo n:Nat):Prop:=∀i j,i<=j->j<n->gAt rk arr (lo+i)<=gAt rk arr (lo+j)
noncomputable def DnF (rk:Keyed->Int) (arr:Array Keyed) (lo n:Nat):Prop:=∀i j,i<=j->j<n->gAt rk arr (lo+j)<=gAt rk arr (lo+i)
variable {a0:Array Keyed} {p0:Array (Nat×Nat×Nat)} {lo:Nat}
theorem SK.size {st} (h:SK κ ok a0 p0 lo st):(arrOf st).size=a0.size:=h.pm.size_eq
theorem AllOk.perm (h:AllOk ok a) (p:b.Perm a):AllOk ok b:=λm x hx=>by
 have:x∈a:=p.mem_iff.mp (Array.mem_of_getElem? hx);obtain⟨m',hm'⟩:=Array.mem_iff_getElem?.mp this;exact h m' x hm'
theorem eK {st} (L:cu prog w A s κ rk ok) (h:SK κ ok a0 p0 lo st) (hi:i<a0.size) (hj:j<a0.size) (hq:Q (some (decide (gAt rk (arrOf st) i<gAt rk (arrOf st) j))) st):wpS (model prog w) A E s (ltAt' i j) Q st:=by
 obtain⟨x,ex,gx,_⟩:=aU (rk:=rk) (a:=arrOf st) (i:=i) (by rw[h.size];exact hi);obtain⟨y,ey,gy,_⟩:=aU (rk:=rk) (a:=arrOf st) (i:=j) (by rw[h.size];exact hj);rw[gx,gy]at hq;rw[ltAt'_eq];refine wpS_bind (wpS_get ?_);exact wpS_bind (aH ex (wpS_bind (aH ey (pR L h.kd (h.ok _ _ ex) (h.ok _ _ ey) hq))))
theorem SK.set {st} (h:SK κ ok a0 p0 lo st) (p:xs.Perm (arrOf st)) (hl:∀m:Nat,m<lo->xs[m]?=(arrOf st)[m]?):SK κ ok a0 p0 lo (setArr st xs):=⟨h.kd,h.fl,h.pd,p.trans h.pm,λm hm=>(hl m hm).trans (h.low m hm),h.ok.perm p⟩
theorem lc {st} (h:SK κ ok a0 p0 lo st) (hi:lo<=i) (hj:j<=a0.size) (hq:SK κ ok a0 p0 lo (setArr st (mirror (arrOf st) i j ((j-i)/2)))->(∀k:Nat,gAt rk (arrOf (setArr st (mirror (arrOf st) i j ((j-i)/2)))) k=if i<=k/\k<j then gAt rk (arrOf st) (i+j-1-k)else gAt rk (arrOf st) k)->Q () (setArr st (mirror (arrOf st) i j ((j-i)/2)))):wpS (model prog w) A E s (reverseSlice' i j) Q st:=by
 rw[reverseSlice'_eq];have e:=λk=>getElem?_mirror_all (xs:=arrOf st) (i:=i) (j:=j) (by rw[h.size];exact hj) k;refine wpS_modify (hq (h.set (mirror_perm _ _ _ _) λm hm=>?_) λk=>?_)
 ·rw[e,if_neg (by omega)]
 ·show gAt rk (mirror (arrOf st) i j ((j-i)/2)) k=_;unfold gAt;rw[Array.getD_eq_getD_getElem?,e];split
  ·rw[Array.getD_eq_getD_getElem?]
  ·rw[Array.getD_eq_getD_getElem?]
theorem DU {st} (L:cu prog w A s κ rk ok) (h:SK κ ok a0 p0 lo st) (hn:lo+n<=a0.size) (ho:o<=n) (up:UpF rk (arrOf st) lo o) (hq:∀st',SK κ ok a0 p0 lo st'->UpF rk (arrOf st') lo n->Q true st'):wpS (model prog w) A E s (binarySort' lo n o) Q st:=by
 refine wpS_bind (wpS_mono (wpS_forRange (I:=λk c st'=>c=(none,())/\SK κ ok a0 p0 lo st'/\UpF rk (arrOf st') lo k) (Q:=λc st'=>c=(none,())/\SK κ ok a0 p0 lo st'/\UpF rk (arrOf st') lo n) ?_ ?_ ⟨rfl,h,λi j hij hj=>?_⟩) ?_)
 ·rintro k c st' hk1 hkn ⟨rfl,h,up⟩;have hk0:1<=k:=by omega
  dsimp only;refine wpS_bind (wpS_mono (wpS_forRange (I:=λi c st2=>st2=st'/\∃l r,c=(none,l,r)/\l<=r/\r<=k/\r-l<=k-i/\(∀i,i<l->gAt rk (arrOf st') (lo+i)<=gAt rk (arrOf st') (lo+k))/\∀i,r<=i->i<k->gAt rk (arrOf st') (lo+k)<=gAt rk (arrOf st') (lo+i))
   (Q:=λc st2=>st2=st'/\∃l r,c=(none,l,r)/\l=r/\r<=k/\(∀i,i<l->gAt rk (arrOf st') (lo+i)<=gAt rk (arrOf st') (lo+k))/\∀i,r<=i->i<k->gAt rk (arrOf st') (lo+k)<=gAt rk (arrOf st') (lo+i)) ?_ ?_ ⟨rfl,0,k,rfl,by omega,by omega,by omega,λi hi=>by omega,λi hi hi2=>by omega⟩) ?_)
  ·rintro i c st2 _ hi ⟨rfl,l,r,rfl,h1,h2,h3,h4,h5⟩;dsimp only;by_cases q:l≥r
   ·rw[if_pos q];exact wpS_pure ⟨rfl,l,r,rfl,by omega,h2,h4,h5⟩
   rw[if_neg q];refine wpS_bind (eK L h (by omega) (by omega) ?_);dsimp only;by_cases e:gAt rk (arrOf st2) (lo+k)<gAt rk (arrOf st2) (lo+(l+r)/2)
   ·rw[if_pos (decide_eq_true e)];refine wpS_pure ⟨rfl,l,(l+r)/2,rfl,by omega,by omega,by omega,h4,λm hm hm2=>?_⟩;have:=up ((l+r)/2) m hm hm2;omega
   ·rw[if_neg (by simpa using e)];refine wpS_pure ⟨rfl,(l+r)/2+1,r,rfl,by omega,h2,by omega,λm hm=>?_,h5⟩;have:=up m ((l+r)/2) (by omega) (by omega);omega
  ·rintro c st2 ⟨rfl,l,r,rfl,h1,h2,h3,h4,h5⟩;rw[Nat.max_eq_right (Nat.zero_le _)]at h3;exact⟨rfl,l,r,rfl,by omega,h2,h4,h5⟩
  ·rintro c st2 ⟨rfl,l,r,rfl,rfl,h2,h4,h5⟩;dsimp only;have e:=λm=>getElem?_bubble (xs:=arrOf st2) (src:=lo+k) (by rw[h.size];omega) (lo+k-(lo+l)) (by omega) m;have ge:∀m,gAt rk (bubble (arrOf st2) (lo+k) (lo+k-(lo+l))) (lo+m)=if m=l then gAt rk (arrOf st2) (lo+k)else if l<m/\m<=k then gAt rk (arrOf st2) (lo+(m-1))else gAt rk (arrOf st2) (lo+m):=λm=>by
    unfold gAt;rw[Array.getD_eq_getD_getElem?,e];by_cases c1:m=l
    ·rw[if_pos c1,if_pos (by omega),Array.getD_eq_getD_getElem?]
    ·rw[if_neg c1,if_neg (by omega)];by_cases c2:l<m/\m<=k
     ·rw[if_pos c2,if_pos (by omega),Array.getD_eq_getD_getElem?,show lo+m-1=lo+(m-1)by omega]
     ·rw[if_neg c2,if_neg (by omega),Array.getD_eq_getD_getElem?]
   have hs:=h.set (xs:=bubble (arrOf st2) (lo+k) (lo+k-(lo+l))) (bubble_perm _ _ _) λm hm=>by
    rw[e,if_neg (by omega),if_neg (by omega)]
   refine wpS_bind (wpS_modify (wpS_pure ⟨rfl,hs,λi j hij hj=>?_⟩));show gAt rk (bubble (arrOf st2) (lo+k) (lo+k-(lo+l))) (lo+i)<=gAt rk (bubble (arrOf st2) (lo+k) (lo+k-(lo+l))) (lo+j);rw[ge,ge];by_cases c1:i=l
   ·rw[if_pos c1];by_cases c2:j=l
    ·rw[if_pos c2];exact Int.le_refl _
    ·rw[if_neg c2,if_pos (by omega)];exact h5 (j-1) (by omega) (by omega)
   ·rw[if_neg c1];by_cases c3:l<i/\i<=k
    ·rw[if_pos c3,if_neg (by omega),if_pos (by omega)];exact up (i-1) (j-1) (by omega) (by omega)
    ·rw[if_neg c3];by_cases c2:j=l
     ·rw[if_pos c2];exact h4 i (by omega)
     ·rw[if_neg c2];by_cases c4:l<j/\j<=k
      ·rw[if_pos c4];exact up i (j-1) (by omega) (by omega)
      ·rw[if_neg c4];exact up i j hij (by omega)
 ·rintro c st' ⟨rfl,h,up⟩;exact⟨rfl,h,λi j hij hj=>up i j hij (by omega)⟩
 ·by_cases z:o=0
  ·have:i=j:=by omega
   rw[this];exact Int.le_refl _
  ·exact up i j hij (by omega)
 ·rintro c st' ⟨rfl,h,up⟩;exact wpS_pure (hq st' h up)
end
end L2
namespace L2
open PySem PySem.W PyProof.Rows
section
variable {prog:Program} {w:World} {A:Around} {E:Value->Shared->Prop} {s:Shared} {rk:Keyed->Int} {κ:SortKind} {ok:Keyed->Prop} {a0:Array Keyed} {p0:Array (Nat×Nat×Nat)} {lo:Nat}
theorem rM {st} (h:SK κ ok a0 p0 lo st) (hf:∀x n (Q':ForInStep (Option (Option Nat)×Nat)->SortSt->Prop),lo+n<a0.size->1<=n->(gAt rk (arrOf st) (lo+n)<gAt rk (arrOf st) (lo+n-1)->Q' (.done (none,n)) st)->(¬gAt rk (arrOf st) (lo+n)<gAt rk (arrOf st) (lo+n-1)->Q' (.yield (none,n+1)) st)->wpS (model prog w) A E s (f x (none,n)) Q' st) (hn:lo+nrem<=a0.size) (h1:1<=n0) (h2:n0<=nrem) (up:UpF rk (arrOf st) lo n0) (hq:∀n,n0<=n->n<=nrem->UpF rk (arrOf st) lo n->(n=nrem\/gAt rk (arrOf st) (lo+n)<gAt rk (arrOf st) (lo+n-1))->Q (none,n) st):wpS (model prog w) A E s (forIn [n0:nrem] (none,n0) f) Q st:=by
 refine wpS_forRange (I:=λi c st'=>st'=st/\c=(none,i)/\UpF rk (arrOf st) lo i) ?_ ?_ ⟨rfl,rfl,up⟩
 ·rintro i c st' hi1 hi2 ⟨rfl,rfl,up⟩;refine hf i i _ (by omega) (by omega) (λq=>hq i hi1 (by omega) up (.inr q)) λq=>⟨rfl,rfl,λx y hxy hy=>?_⟩;rw[show lo+i-1=lo+(i-1)by omega]at q;by_cases e:y=i
  ·by_cases e2:x=i
   ·rw[e,e2];exact Int.le_refl _
   ·have:=up x (i-1) (by omega) (by omega);rw[e];omega
  ·exact up x y hxy (by omega)
 ·rintro c st' ⟨rfl,rfl,up⟩;rw[Nat.max_eq_right h2]at up⊢;exact hq nrem h2 (le_refl _) up (.inl rfl)
theorem xt {st} (L:cu prog w A s κ rk ok) (h:SK κ ok a0 p0 lo st) (hn:lo+nrem<=a0.size) (h1:1<=nrem) (hq:∀n st',1<=n->n<=nrem->SK κ ok a0 p0 lo st'->UpF rk (arrOf st') lo n->Q (some n) st'):wpS (model prog w) A E s (countRun' lo nrem) Q st:=by
 refine wpS_bind (rM (rk:=rk) h (λx n Q' b1 b2 q1 q2=>?_) hn (le_refl _) h1 (λi j hij hj=>by rw[show i=j by omega];exact Int.le_refl _) λn n1 n2 up hend=>?_)
 ·refine wpS_bind (eK (rk:=rk) L h b1 (by omega) ?_);dsimp only;by_cases q:gAt rk (arrOf st) (lo+n)<gAt rk (arrOf st) (lo+n-1)
  ·rw[if_pos (decide_eq_true q)];exact wpS_pure (q1 q)
  ·rw[if_neg (by simpa using q)];exact wpS_pure (q2 q)
 dsimp only;by_cases qe:n=nrem
 ·rw[if_pos (by simpa using qe)];exact wpS_pure (hq n st n1 n2 h up)
 rw[if_neg (by simpa using qe)];have hlt:=hend.resolve_left qe;rw[show lo+n-1=lo+(n-1)by omega]at hlt;by_cases qn:n>1;rw[if_pos qn];refine wpS_bind (eK (rk:=rk) L h (by omega) (by omega) ?_);dsimp only;by_cases qr:gAt rk (arrOf st) lo<gAt rk (arrOf st) (lo+n-1)
 ·rw[if_pos (decide_eq_true qr)];exact wpS_pure (hq n st n1 n2 h up)
 rw[if_neg (by simpa using qr)];rw[show lo+n-1=lo+(n-1)by omega]at qr;have alle:∀i,i<n->gAt rk (arrOf st) (lo+i)=gAt rk (arrOf st) (lo+(n-1)):=λi hi=>by
  have u1:=up 0 i (by omega) hi;have u2:=up i (n-1) (by omega) (by omega);rw[Nat.add_zero]at u1;omega
 refine wpS_bind (lc (rk:=rk) h (le_refl _) (by omega) λhs hg=>?_);have hd:DnF rk (arrOf (setArr st (mirror (arrOf st) lo (lo+n) ((lo+n-lo)/2)))) lo (n+1):=λi j hij hj=>by
  rw[hg,hg];have v:∀m,m<n->(if lo<=lo+m/\lo+m<lo+n then gAt rk (arrOf st) (lo+(lo+n)-1-(lo+m))else gAt rk (arrOf st) (lo+m))=gAt rk (arrOf st) (lo+(n-1)):=λm hm=>by
   rw[if_pos (by omega),show lo+(lo+n)-1-(lo+m)=lo+(n-1-m)by omega];exact alle _ (by omega)
  by_cases e:j=n
  ·rw[e,if_neg (by omega)];by_cases e2:i=n
   ·rw[e2,if_neg (by omega)];exact Int.le_refl _
   ·rw[v i (by omega)];omega
  ·rw[v i (by omega),v j (by omega)];exact Int.le_refl _
 rotate_left;rw[if_neg qn];have hs:=h;have hd:DnF rk (arrOf st) lo (n+1):=λi j hij hj=>by
  by_cases e:i=j
  ·rw[e];exact Int.le_refl _
  ·rw[show i=0 by omega,show j=n by omega];rw[show n-1=0 by omega]at hlt;omega
 all_goals
  refine wpS_bind (wpS_lift (wpAny_rule ⟨rfl,?_⟩))
  refine wpS_bind (wpS_mono (wpS_forRange (I:=λi c st'=>∃q,c=(none,i,q)/\SK κ ok a0 p0 lo st'/\DnF rk (arrOf st') lo i/\q+1<=i/\∀m,i-(q+1)<=m->m<i->gAt rk (arrOf st') (lo+m)=gAt rk (arrOf st') (lo+(i-1)))
   (Q:=λc st'=>∃i q,c=(none,i,q)/\n+1<=i/\i<=nrem/\SK κ ok a0 p0 lo st'/\DnF rk (arrOf st') lo i/\q+1<=i/\∀m,i-(q+1)<=m->m<i->gAt rk (arrOf st') (lo+m)=gAt rk (arrOf st') (lo+(i-1))) ?_ ?_ ⟨0,rfl,hs,hd,by omega,λm m1 m2=>by rw[show m=n+1-1 by omega]⟩) ?_)
  ·rintro i c st1 hi1 hi2 ⟨q,rfl,hs,hd,hqi,heq⟩;dsimp only;refine wpS_bind (eK (rk:=rk) L hs (by omega) (by omega) ?_);dsimp only;rw[show lo+i-1=lo+(i-1)by omega];have dn:∀st2:SortSt,(∀m,gAt rk (arrOf st2) m=gAt rk (arrOf st1) m)->gAt rk (arrOf st1) (lo+i)<=gAt rk (arrOf st1) (lo+(i-1))->DnF rk (arrOf st2) lo (i+1):=λst2 hg hle x y hxy hy=>by
    rw[hg,hg];by_cases e:y=i
    ·by_cases e2:x=i
     ·rw[e,e2];exact Int.le_refl _
     ·have:=hd x (i-1) (by omega) (by omega);rw[e];omega
    ·exact hd x y hxy (by omega)
   by_cases q1:gAt rk (arrOf st1) (lo+i)<gAt rk (arrOf st1) (lo+(i-1))
   ·rw[if_pos (decide_eq_true q1)];by_cases q2:q>0
    ·rw[if_pos q2];refine wpS_bind (lc (rk:=rk) hs (by omega) (by omega) λhs2 hg2=>?_);refine wpS_pure ⟨0,rfl,hs2,dn _ (λm=>?_) (by omega),by omega,λm m1 m2=>by rw[show m=i+1-1 by omega]⟩;rw[hg2];split
     ·rename_i c;have a1:=heq (m-lo) (by omega) (by omega);have a2:=heq (lo+i-(q+1)+(lo+i)-1-m-lo) (by omega) (by omega);rw[show lo+(m-lo)=m by omega]at a1;rw[show lo+(lo+i-(q+1)+(lo+i)-1-m-lo)=lo+i-(q+1)+(lo+i)-1-m by omega]at a2;omega
     ·rfl
    ·rw[if_neg q2];exact wpS_pure ⟨0,rfl,hs,dn _ (λ_=>rfl) (by omega),by omega,λm m1 m2=>by rw[show m=i+1-1 by omega]⟩
   ·rw[if_neg (by simpa using q1)];refine wpS_bind (eK (rk:=rk) L hs (by omega) (by omega) ?_);dsimp only;by_cases q2:gAt rk (arrOf st1) (lo+(i-1))<gAt rk (arrOf st1) (lo+i)
    ·rw[if_pos (decide_eq_true q2)];exact wpS_pure ⟨i,q,rfl,hi1,by omega,hs,hd,hqi,heq⟩
    ·rw[if_neg (by simpa using q2)];refine wpS_pure ⟨q+1,rfl,hs,dn _ (λ_=>rfl) (by omega),by omega,λm m1 m2=>?_⟩;rw[show i+1-1=i by omega];by_cases e:m=i
     ·rw[e]
     ·have:=heq m (by omega) (by omega);omega
  ·rintro c st1 ⟨q,rfl,hs,hd,hqi,heq⟩;have e:max (n+1) nrem=nrem:=by omega
   rw[e]at hd hqi heq⊢;exact⟨nrem,q,rfl,by omega,le_refl _,hs,hd,hqi,heq⟩
  ·rintro c st1 ⟨i,q,rfl,hi1,hi2,hs,hd,hqi,heq⟩;dsimp only;by_cases q2:q>0
   ·rw[if_pos q2];refine wpS_bind (lc (rk:=rk) hs (by omega) (by omega) λhs2 hg2=>?_);have same:∀m,gAt rk (arrOf (setArr st1 (mirror (arrOf st1) (lo+i-(q+1)) (lo+i) ((lo+i-(lo+i-(q+1)))/2)))) m=gAt rk (arrOf st1) m:=λm=>by
     rw[hg2];split
     ·rename_i c;have a1:=heq (m-lo) (by omega) (by omega);have a2:=heq (lo+i-(q+1)+(lo+i)-1-m-lo) (by omega) (by omega);rw[show lo+(m-lo)=m by omega]at a1;rw[show lo+(lo+i-(q+1)+(lo+i)-1-m-lo)=lo+i-(q+1)+(lo+i)-1-m by omega]at a2;omega
     ·rfl
    obtain⟨st2,hst2⟩:∃st2,st2=setArr st1 (mirror (arrOf st1) (lo+i-(q+1)) (lo+i) ((lo+i-(lo+i-(q+1)))/2)):=⟨_,rfl⟩;rw[<-hst2]at hs2 same⊢;refine wpS_bind (lc (rk:=rk) hs2 (le_refl _) (by omega) λhs3 hg3=>?_);have hd2:DnF rk (arrOf st2) lo i:=λx y hxy hy=>by rw[same,same];exact hd x y hxy hy
    have hu:UpF rk (arrOf (setArr st2 (mirror (arrOf st2) lo (lo+i) ((lo+i-lo)/2)))) lo i:=λx y hxy hy=>by
     rw[hg3,hg3,if_pos (by omega),if_pos (by omega),show lo+(lo+i)-1-(lo+x)=lo+(i-1-x)by omega,show lo+(lo+i)-1-(lo+y)=lo+(i-1-y)by omega];exact hd2 (i-1-y) (i-1-x) (by omega) (by omega)
    refine wpS_bind (rM (rk:=rk) hs3 (λx n Q' b1 b2 q1 q2=>?_) hn (by omega) hi2 hu λn' m1 m2 up' _=>?_)
    ·refine wpS_bind (eK (rk:=rk) L hs3 b1 (by omega) ?_);dsimp only;by_cases q:gAt rk (arrOf (setArr st2 (mirror (arrOf st2) lo (lo+i) ((lo+i-lo)/2)))) (lo+n)<gAt rk (arrOf (setArr st2 (mirror (arrOf st2) lo (lo+i) ((lo+i-lo)/2)))) (lo+n-1)
     ·rw[if_pos (decide_eq_true q)];exact wpS_pure (q1 q)
     ·rw[if_neg (by simpa using q)];exact wpS_pure (q2 q)
    exact wpS_pure (hq n' _ (by omega) m2 hs3 up')
   ·rw[if_neg q2];refine wpS_bind (lc (rk:=rk) hs (le_refl _) (by omega) λhs3 hg3=>?_);have hu:UpF rk (arrOf (setArr st1 (mirror (arrOf st1) lo (lo+i) ((lo+i-lo)/2)))) lo i:=λx y hxy hy=>by
     rw[hg3,hg3,if_pos (by omega),if_pos (by omega),show lo+(lo+i)-1-(lo+x)=lo+(i-1-x)by omega,show lo+(lo+i)-1-(lo+y)=lo+(i-1-y)by omega];exact hd (i-1-y) (i-1-x) (by omega) (by omega)
    refine wpS_bind (rM (rk:=rk) hs3 (λx n Q' b1 b2 q1 q2=>?_) hn (by omega) hi2 hu λn' m1 m2 up' _=>?_)
    ·refine wpS_bind (eK (rk:=rk) L hs3 b1 (by omega) ?_);dsimp only;by_cases q:gAt rk (arrOf (setArr st1 (mirror (arrOf st1) lo (lo+i) ((lo+i-lo)/2)))) (lo+n)<gAt rk (arrOf (setArr st1 (mirror (arrOf st1) lo (lo+i) ((lo+i-lo)/2)))) (lo+n-1)
     ·rw[if_pos (decide_eq_true q)];exact wpS_pure (q1 q)
     ·rw[if_neg (by simpa using q)];exact wpS_pure (q2 q)
    exact wpS_pure (hq n' _ (by omega) m2 hs3 up')
end
end L2
namespace L2
open PySem PySem.W PyProof.Rows
def iQ:Nat->List (List Keyed)->List (Nat×Nat)
 |_,[]=>[]
 |o,r::rs=>(o,r.length)::iQ (o+r.length) rs
theorem fw:∀ (P R:List (List Keyed)) (o:Nat),iQ o (P++R)=iQ o P++iQ (o+P.flatten.length) R
 |[],R,o=>rfl
 |r::P,R,o=>by
  show(o,r.length)::iQ (o+r.length) (P++R)=(o,r.length)::(iQ (o+r.length) P++_);rw[fw P R,List.flatten_cons,length_append,Nat.add_assoc]
theorem cK:∀ (P:List (List Keyed)) (o:Nat),(iQ o P).length=P.length
 |[],o=>rfl
 |r::P,o=>by show(iQ _ P).length+1=P.length+1;rw[cK P]
theorem tW {α β:Type} (f:α->β):∀ (l:List α) (q:Nat),(l.eraseIdx q).map f=(l.map f).eraseIdx q
 |[],_=>rfl
 |a::l,0=>rfl
 |a::l,q+1=>by
  show f a::(l.eraseIdx q).map f=f a::(l.map f).eraseIdx q;rw[tW f l q]
section
variable {prog:Program} {w:World} {A:Around} {E:Value->Shared->Prop} {s:Shared} {rk:Keyed->Int} {κ:SortKind} {ok:Keyed->Prop} {a0:Array Keyed}
structure SR (κ:SortKind) (ok:Keyed->Prop) (rk:Keyed->Int) (a0:Array Keyed) (runs:List (List Keyed)) (rest:List Keyed) (st:SortSt):Prop where
 kd:kindOf st=κ
 fl:failedOf st=none
 ok:AllOk ok (arrOf st)
 pm:(arrOf st).toList.Perm a0.toList
 ar:(arrOf st).toList=runs.flatten++rest
 sr:∀r∈runs,Srt rk r/\1<=r.length
 pd:(pendingOf st).toList.map (λp=>(p.1,p.2.1))=iQ 0 runs
theorem SR.at_ {rest} {st} (h:SR κ ok rk a0 (P++r::R) rest st):∃pw,(pendingOf st)[P.length]?=some (P.flatten.length,r.length,pw):=by
 have e:((pendingOf st).toList.map (λp=>(p.1,p.2.1)))[P.length]?=some (P.flatten.length,r.length):=by
  rw[h.pd,fw,getElem?_append_right (by rw[cK];exact le_refl _),cK,Nat.sub_self,Nat.zero_add];rfl
 rw[getElem?_map]at e;cases hx:(pendingOf st).toList[P.length]? with
 |none=>rw[hx]at e;cases e
 |some x=>
  rw[hx]at e;obtain⟨a,b,c⟩:=x;cases e;exact⟨c,by rw[<-Array.getElem?_toList];exact hx⟩
theorem SR.len {rest} {st} (h:SR κ ok rk a0 runs rest st):(pendingOf st).size=runs.length:=by
 have:=congrArg List.length h.pd;rw[length_map,cK,Array.length_toList]at this;exact this
theorem tX {st} {r1 r2 rest} (L:cu prog w A s κ rk ok) (h:SR κ ok rk a0 (P++r1::r2::R) rest st) (hq:∀ (st':SortSt) (m:List Keyed),SR κ ok rk a0 (P++m::R) rest st'->Q true st'):wpS (model prog w) A E s (mergeAt' P.length) Q st:=by
 obtain⟨pw,p1⟩:=h.at_;have h2:SR κ ok rk a0 ((P++[r1])++r2::R) rest st:=by rw[List.append_assoc];exact h
 obtain⟨pw2,p2⟩:=h2.at_;rw[length_append,List.flatten_append,length_append]at p2;have e0:[r1].flatten.length=r1.length:=by simp
 rw[e0]at p2;obtain⟨s1,n1⟩:=h.sr r1 (by simp);obtain⟨s2,n2⟩:=h.sr r2 (by simp);refine rL (pre:=P.flatten) (s1:=r1) (s2:=r2) (post:=R.flatten++rest) L h.kd h.fl h.ok (by rw[h.ar];simp[List.append_assoc]) p1 p2 n1 n2 s1 s2 λst' m k1 k2 k3 k4 k5 k6=>hq st' m ?_;have ml:m.length=r1.length+r2.length:=by rw[k5.length_eq,length_append]
 have pmA:(arrOf st').toList.Perm (arrOf st).toList:=by
  rw[k4,h.ar,List.flatten_append,List.flatten_cons,List.flatten_cons,List.append_assoc];refine List.Perm.append_left _ ?_;rw[List.append_assoc,List.append_assoc,<-List.append_assoc r1];exact k5.append_right _
 refine⟨k1,k2,h.ok.perm (Array.perm_iff_toList_perm.mpr pmA),pmA.trans h.pm,by rw[k4];simp[List.append_assoc],λr hr=>?_,?_⟩
 ·rcases mem_append.mp hr with z|z
  ·exact h.sr r (mem_append_left _ z)
  ·rcases mem_cons.mp z with rfl|z
   ·exact⟨k6,by omega⟩
   ·exact h.sr r (mem_append_right _ (mem_cons_of_mem _ (mem_cons_of_mem _ z)))
 ·rw[k3];have hl:P.length+1<(pendingOf st).size:=by rw[h.len,length_append,length_cons,length_cons];omega
  have e1:(xq (pendingOf st) P.length P.flatten.length (r1.length+r2.length) pw).toList=((pendingOf st).toList.set P.length (P.flatten.length,r1.length+r2.length,pw)).eraseIdx (P.length+1):=by
   unfold xq;rw[Array.toList_eraseIdxIfInBounds,Array.toList_setIfInBounds]
  rw[e1,tW,List.map_set,h.pd,fw,fw];rw[List.set_append_right _ _ (by rw[cK];exact le_refl _),cK,Nat.sub_self,List.eraseIdx_append_of_length_le (by rw[cK];omega),cK,Nat.add_sub_cancel_left];show iQ 0 P++((P.flatten.length,r1.length+r2.length)::iQ (0+P.flatten.length+r1.length+r2.length) R)=iQ 0 P++((0+P.flatten.length,m.length)::iQ (0+P.flatten.length+m.length) R);rw[ml,Nat.zero_add,Nat.add_assoc]
end
end L2
namespace L2
open PySem PySem.W PyProof.Rows
section
variable {prog:Program} {w:World} {A:Around} {E:Value->Shared->Prop} {s:Shared} {rk:Keyed->Int} {κ:SortKind} {ok:Keyed->Prop} {a0:Array Keyed}
theorem SR.run {rest} {st st'} (h:SR κ ok rk a0 runs rest st) (k:SK κ ok (arrOf st) (pendingOf st) runs.flatten.length st') (up:UpF rk (arrOf st') runs.flatten.length n) (hn:runs.flatten.length+n<=(arrOf st).size):
  ∃r rest',r.length=n/\Srt rk r/\SR κ ok rk a0 runs (r++rest') st':=by
 have sz:(arrOf st').size=(arrOf st).size:=k.size
 have e1:(arrOf st').toList.take runs.flatten.length=runs.flatten:=by
  have e2:(arrOf st').toList.take runs.flatten.length=(arrOf st).toList.take runs.flatten.length:=by
   apply List.ext_getElem?;intro m;rw[List.getElem?_take,List.getElem?_take];split
   ·rw[Array.getElem?_toList,Array.getElem?_toList];exact k.low m (by assumption)
   ·rfl
  rw[e2,h.ar,List.take_append,List.take_length,Nat.sub_self,List.take_zero,List.append_nil]
 have dl:((arrOf st').toList.drop runs.flatten.length).length=(arrOf st).size-runs.flatten.length:=by rw[List.length_drop,Array.length_toList,sz]
 refine⟨((arrOf st').toList.drop runs.flatten.length).take n,((arrOf st').toList.drop runs.flatten.length).drop n,by rw[List.length_take,dl];omega,?_,k.kd,k.fl,k.ok,(Array.perm_iff_toList_perm.mp k.pm).trans h.pm,?_,h.sr,by rw[k.pd];exact h.pd⟩
 ·refine List.pairwise_iff_getElem.mpr λi j hi hj hij=>?_;rw[List.length_take,dl]at hj;have:=up i j (by omega) (by omega);rw[jz,jz]at this;unfold gL at this;have q1:runs.flatten.length+i<(arrOf st').toList.length:=by have tl:(arrOf st').toList.length=(arrOf st').size:=rfl;omega
  have q2:runs.flatten.length+j<(arrOf st').toList.length:=by have tl:(arrOf st').toList.length=(arrOf st').size:=rfl;omega
  rw[List.getD_eq_getElem?_getD,List.getD_eq_getElem?_getD,getElem?_eq_getElem q1,getElem?_eq_getElem q2]at this;simpa using this
 ·rw[List.take_append_drop];conv=>lhs;rw[<-List.take_append_drop runs.flatten.length (arrOf st').toList]
  rw[e1]
theorem SR.sk {rest} {st} (h:SR κ ok rk a0 runs rest st):SK κ ok (arrOf st) (pendingOf st) runs.flatten.length st:=⟨h.kd,h.fl,rfl,.refl _,λ_ _=>rfl,h.ok⟩
theorem SR.size {rest} {st} (h:SR κ ok rk a0 runs rest st):(arrOf st).size=a0.size:=by
 have:=h.pm.length_eq;rw[Array.length_toList,Array.length_toList]at this;exact this
theorem SR.lo {rest} {st} (h:SR κ ok rk a0 runs rest st):runs.flatten.length+rest.length=a0.size:=by
 rw[<-h.size,<-Array.length_toList,h.ar,length_append]
theorem SR.few {rest} {st} (h:SR κ ok rk a0 runs rest st):runs.length<=runs.flatten.length:=by
 have hh:=h.sr;clear h;induction runs with
 |nil=>exact le_refl _
 |cons r rs ih=>
  have:=ih λx hx=>hh x (mem_cons_of_mem _ hx);have:=(hh r mem_cons_self).2;rw[List.flatten_cons,length_append,length_cons];omega
theorem SR.push {r rest} {st} {lo n} (h:SR κ ok rk a0 runs (r++rest) st) (hs:Srt rk r) (h1:1<=r.length) (hlo:runs.flatten.length=lo) (hn:r.length=n):SR κ ok rk a0 (runs++[r]) rest (SortSt.mk' (kindOf st) (arrOf st) ((pendingOf st).push (lo,n,0)) (gallopOf st) (failedOf st)):=by
 refine⟨h.kd,h.fl,h.ok,h.pm,?_,λx hx=>?_,?_⟩
 ·show(arrOf st).toList=_;rw[h.ar];simp[List.append_assoc]
 ·rcases mem_append.mp hx with z|z
  ·exact h.sr x z
  ·rw[mem_singleton.mp z];exact⟨hs,h1⟩
 ·show((pendingOf st).push (lo,n,0)).toList.map _=_;rw[Array.toList_push,List.map_append,h.pd,fw,Nat.zero_add,hlo];show _++[(lo,n)]=_++[(lo,r.length)];rw[hn]
theorem SR.pw {rest} {st} (h:SR κ ok rk a0 runs rest st) (i p:Nat):SR κ ok rk a0 runs rest (SortSt.mk' (kindOf st) (arrOf st) ((pendingOf st).modify i λx=>(x.1,x.2.1,p)) (gallopOf st) (failedOf st)):=by
 refine⟨h.kd,h.fl,h.ok,h.pm,h.ar,h.sr,?_⟩;show((pendingOf st).modify i λx=>(x.1,x.2.1,p)).toList.map _=_;rw[<-h.pd];apply List.ext_getElem?;intro m;rw[getElem?_map,getElem?_map,Array.getElem?_toList,Array.getElem?_toList,Array.getElem?_modify];split
 ·cases(pendingOf st)[m]?<;>rfl
 ·rfl
theorem GI {α:Type} {l:List α} (h:2<=l.length):∃P a b,l=P++a::b::[]/\P.length=l.length-2:=by
 refine⟨l.take (l.length-2),l[l.length-2],l[l.length-1],?_,by rw[List.length_take];omega⟩;conv=>lhs;rw[<-List.take_append_drop (l.length-2) l]
 congr 1;rw[List.drop_eq_getElem_cons (by omega),List.drop_eq_getElem_cons (by omega),List.drop_of_length_le (by omega)];congr 2;congr 1;omega
theorem DV {α:Type} {l:List α} (h:i+1<l.length):∃P a b R,l=P++a::b::R/\P.length=i:=by
 refine⟨l.take i,l[i],l[i+1],l.drop (i+2),?_,by rw[List.length_take];omega⟩;conv=>lhs;rw[<-List.take_append_drop i l]
 rw[List.drop_eq_getElem_cons (by omega),List.drop_eq_getElem_cons (by omega)]
theorem Jj [Decidable c] (h1:a+1<n) (h2:b+1<n):(if c then a else b)+1<n:=by
 by_cases h:c
 ·rw[if_pos h];exact h1
 ·rw[if_neg h];exact h2
theorem AR {st} (L:cu prog w A s κ rk ok) (h:SR κ ok rk a0 [] a0.toList st) (hq:∀st':SortSt,failedOf st'=none->(arrOf st').toList.Perm a0.toList->Srt rk (arrOf st').toList->Q () st'):wpS (model prog w) A E s sortRuns' Q st:=by
 have hsz:=h.size;refine wpS_bind (wpS_get ?_);dsimp only;rw[show(PyProof.Rows.arrOf st).size=a0.size from hsz];obtain⟨mr,hmr⟩:∃mr,mr=(sortPriv%PySem.Builtin.minRun) a0.size a0.size 0:=⟨_,rfl⟩;rw[<-hmr];clear hmr;refine wpS_bind (wpS_mono (wpS_forRange (I:=λx c st'=>∃lo runs rest,c=(none,lo)/\runs.flatten.length=lo/\SR κ ok rk a0 runs rest st'/\x<=lo) (Q:=λc st'=>∃runs,c=(none,a0.size)/\SR κ ok rk a0 runs [] st') ?_ ?_ ⟨0,[],_,rfl,rfl,h,le_refl _⟩) ?_)
 ·rintro x c st1 _ hx ⟨lo,runs,rest,rfl,hlo,h,hxl⟩;have hl:=h.lo;have hsz:=h.size;dsimp only;by_cases q:lo≥a0.size
  ·rw[if_pos q];have z:rest=[]:=List.length_eq_zero_iff.mp (by omega);subst z;exact wpS_pure ⟨runs,by rw[show lo=a0.size by omega],h⟩
  rw[if_neg q];subst hlo;refine wpS_bind (xt (rk:=rk) L h.sk (by omega) (by omega) λn st2 n1 n2 k up=>?_);dsimp only;have body:∀ (N:Nat) (st3:SortSt),1<=N->runs.flatten.length+N<=a0.size->SK κ ok (arrOf st1) (pendingOf st1) runs.flatten.length st3->UpF rk (arrOf st3) runs.flatten.length N->∃r rest',r.length=N/\Srt rk r/\SR κ ok rk a0 runs (r++rest') st3:=λN st3 _ hN k up=>h.run k up (by omega);by_cases qm:n<mr;rw[if_pos qm];refine wpS_bind (wpS_lift (wpAny_rule ⟨rfl,?_⟩));refine wpS_bind (DU (rk:=rk) L k (by omega) (by omega) up λst3 k3 up3=>?_);rw[if_neg (by simp)];obtain⟨r,rest',rl,rs,h3⟩:=body _ st3 (by omega) (by omega) k3 up3;rotate_left;rw[if_neg qm];obtain⟨st3,hst3⟩:∃st3,st3=st2:=⟨_,rfl⟩;rw[<-hst3];obtain⟨r,rest',rl,rs,h3⟩:=body n st3 n1 (by omega) (by rw[hst3];exact k) (by rw[hst3];exact up);all_goals
   have r1:1<=r.length:=by omega
   have hl3:=h3.lo
   rw[length_append]at hl3
   refine wpS_bind (wpS_get ?_)
   rcases hb:(PyProof.Rows.pendingOf st3).back? with _|⟨s1,c1,pw1⟩
   ·dsimp only;refine wpS_bind (wpS_modify (wpS_pure ⟨_,runs++[r],rest',rfl,?_,h3.push rs r1 rfl rl,by omega⟩));rw[List.flatten_append,length_append];simp[rl]
   ·dsimp only;refine wpS_bind (wpS_mono (wpS_forRange (I:=λ_ c st4=>c=(none,())/\∃runs',SR κ ok rk a0 runs' (r++rest') st4) (Q:=λc st4=>c=(none,())/\∃runs',SR κ ok rk a0 runs' (r++rest') st4) ?_ (λ_ _ z=>z) ⟨rfl,runs,h3⟩) ?_)
    ·rintro x4 c st4 _ _ ⟨rfl,runs',h4⟩;refine wpS_bind (wpS_get ?_);have hl4:=h4.len;by_cases q4:(PyProof.Rows.pendingOf st4).size>1
     ·rw[if_pos q4];obtain⟨P,x1,x2,rfl,hP⟩:=GI (l:=runs') (by omega);obtain⟨pw,hpw⟩:=h4.at_;have e4:(PyProof.Rows.pendingOf st4).size-2=P.length:=by omega
      rw[e4,hpw];dsimp only;split
      ·exact wpS_pure ⟨rfl,_,h4⟩
      ·refine wpS_bind (tX L h4 λst5 m h5=>?_);rw[if_neg (by simp)];exact wpS_pure ⟨rfl,_,h5⟩
     ·rw[if_neg q4];exact wpS_pure ⟨rfl,_,h4⟩
    ·rintro c st4 ⟨rfl,runs',h4⟩;dsimp only;have hl4:=h4.lo;rw[length_append]at hl4;refine wpS_bind (wpS_modify (wpS_bind (wpS_modify (wpS_pure ⟨_,runs'++[r],rest',rfl,?_,(h4.pw _ _).push rs r1 (by omega) rl,by omega⟩))));have e:[r].flatten.length=r.length:=by rw[List.flatten_cons,List.flatten_nil,List.append_nil]
     rw[List.flatten_append,length_append];omega
 ·rintro c st1 ⟨lo,runs,rest,rfl,hlo,h,hxl⟩;have hl:=h.lo;rw[Nat.max_eq_right (Nat.zero_le _)]at hxl;have z:rest=[]:=List.length_eq_zero_iff.mp (by omega);subst z;exact⟨runs,by rw[show lo=a0.size by omega],h⟩
 ·rintro c st1 ⟨runs,rfl,h⟩;dsimp only;have hl:=h.lo;refine wpS_bind (wpS_mono (wpS_forRange (I:=λx c st2=>c=(none,())/\∃runs,SR κ ok rk a0 runs [] st2/\(runs.length+x<=a0.size\/runs.length<=1)) (Q:=λc st2=>c=(none,())/\∃runs,SR κ ok rk a0 runs [] st2/\runs.length<=1) ?_ ?_ ⟨rfl,runs,h,.inl ?_⟩) ?_)
  ·rintro x c st2 _ hx ⟨rfl,runs,h,hb⟩;refine wpS_bind (wpS_get ?_);have hl2:=h.len;by_cases q:(PyProof.Rows.pendingOf st2).size<=1
   ·rw[if_pos q];exact wpS_pure ⟨rfl,runs,h,by omega⟩
   rw[if_neg q];have key:∀i,i+1<runs.length->wpS (model prog w) A E s (mergeAt' i) (λb st3=>b=true/\∃runs',SR κ ok rk a0 runs' [] st3/\runs'.length+1=runs.length) st2:=λi hi=>by
    obtain⟨P,x1,x2,R,rfl,rfl⟩:=DV hi;refine tX L h λst3 m h3=>⟨rfl,_,h3,?_⟩;simp[length_append];omega
   refine wpS_bind (wpS_mono (key _ ?_) ?_)
   ·exact Jj (show(PyProof.Rows.pendingOf st2).size-2-1+1<runs.length by omega) (show(PyProof.Rows.pendingOf st2).size-2+1<runs.length by omega)
   ·rintro bb st3 ⟨rfl,runs',h3,hl3⟩;rw[if_neg (by simp)];exact wpS_pure ⟨rfl,runs',h3,by omega⟩
  ·rintro c st2 ⟨rfl,runs,h,hb⟩;rw[Nat.max_eq_right (Nat.zero_le _)]at hb;exact⟨rfl,runs,h,by omega⟩
  ·have:=h.few;have z:([]:List Keyed).length=0:=rfl;omega
  ·rintro c st2 ⟨rfl,runs,h,hb⟩;refine wpS_pure (hq st2 h.fl h.pm ?_);rw[h.ar,List.append_nil];match runs,hb,h with
   |[],_,_=>exact List.Pairwise.nil
   |[r],_,h=>
    show Srt rk ([r].flatten);rw[List.flatten_cons,List.flatten_nil,List.append_nil];exact(h.sr r mem_cons_self).1
end
end L2
namespace L2
open PySem PySem.W PyProof.Rows
section
variable {prog:Program} {w:World} {A:Around} {E:Value->Shared->Prop} {s:Shared} {rv:Value->Int}
structure SortAll (prog:Program) (w:World) (A:Around) (s:Shared) (a:Addr) (vs:List Value) (κ:SortKind) (rv:Value->Int):Prop where
 kd:∀h',(∀b o,b≠a->s.heap.get? b=some o->h'.get? b=some o)->2<=vs.length->∀ (Q:SortKind->Shared->Prop),Q κ {s with heap:=h'}->wpAny (model prog w) A (keyKind' vs.toArray) Q (λ_ _=>False) {s with heap:=h'}
 cp:∀h',(∀b o,b≠a->s.heap.get? b=some o->h'.get? b=some o)->∀x y,x∈vs->y∈vs->∀ (Q:Bool->Shared->Prop),Q (decide (rv x<rv y)) {s with heap:=h'}->wpAny (model prog w) A (keyLt' κ x y) Q (λ_ _=>False) {s with heap:=h'}
theorem pU:∀l:List Value,l.zip l=l.map λv=>(v,v)
 |[]=>rfl
 |x::l=>by
  show(x,x)::l.zip l=_;rw[pU l];rfl
theorem vd (ho:s.heap.get? a=some (seqObj "list" vs.toArray n)) (hz:vs.length<=sizeLine) (B:SortAll prog w A s a vs κ rv) (h:∀o:List Value,o.Perm vs->(o.Pairwise λx y=>rv x<=rv y)->P (.done (.ret .none)) {s with heap:=sortedHeap s.heap a vs o.toArray}):wpAny (model prog w) A (Builtin.«list.sort» ⟨[.ref a],[]⟩) P E s:=by
 have lt:a<s.heap.objs.size:=Heap.lt_size ho;obtain⟨m,hm⟩:∃m,(s.heap.update a (Obj.mapSeq λ_=>#[])).get? a=some (seqObj "list" #[] m):=⟨_,get?_update_seq ho λ_=>#[]⟩;have hL:(((s.heap.update a (Obj.mapSeq λ_=>#[])).push (seqObj "tuple" vs.toArray 0)).push (seqObj "list" #[] 0)).get? a=some (seqObj "list" #[] m):=
  Heap.get?_push_of_some _ (Heap.get?_push_of_some _ hm)
 have sz:vs.toArray.size=vs.length:=rfl;rw[list_sort_plain];refine wpAny_bind (listItems_at ho rfl (wpAny_bind (listUpdate_at ho rfl ?_ (by rw[sz];exact hz) (Nat.zero_le _))));refine wpAny_bind (seqEpoch_at hm rfl (wpAny_bind (wpAny_newTuple ?_ hz)));refine wpAny_bind (wpAny_newList (wpAny_holding ?_) (Nat.zero_le _));show wpAny (model prog w) A _ P E {s with heap:=((s.heap.update a (Obj.mapSeq λ_=>#[])).push (seqObj "tuple" vs.toArray 0)).push (seqObj "list" #[] 0)};dsimp only;rw[sz];have zp:(vs.toArray.zip vs.toArray).toList=vs.map λv=>(v,v):=by
  rw[Array.toList_zip];exact pU vs
 by_cases q:vs.length<2
 ·rw[if_pos q,if_pos q];refine wpAny_bind (wpAny_pure ?_);rw[StateT.run_pure];refine wpAny_bind (wpAny_pure ?_);have e:(arrOf (SortSt.mk' general' (vs.toArray.zip vs.toArray) #[] 7 none)).map (·.2)=vs.toArray:=by
   show(vs.toArray.zip vs.toArray).map (·.2)=vs.toArray;apply Array.toList_inj.mp;rw[Array.toList_map,zp,List.map_map];exact List.map_id _
  dsimp only;rw[e];refine wpAny_bind (seqEpoch_at hL rfl (wpAny_bind (listUpdate_at hL rfl ?_ (Nat.zero_le _) (by show vs.length<=_;omega))));simp only[bne_self_eq_false,Bool.false_eq_true,if_false];refine wpAny_pure (h vs (.refl _) ?_);match vs,q with
  |[],_=>exact List.Pairwise.nil
  |[x],_=>exact List.pairwise_singleton _ _
 ·rw[if_neg q,if_neg q];have kp:∀b o,b≠a->s.heap.get? b=some o->(((s.heap.update a (Obj.mapSeq λ_=>#[])).push (seqObj "tuple" vs.toArray 0)).push (seqObj "list" #[] 0)).get? b=some o:=λb o hb ho=>
   Heap.get?_push_of_some _ (Heap.get?_push_of_some _ (by rw[Heap.get?_update_ne _ _ _ _ hb];exact ho))
  refine wpAny_bind (wpAny_mono (B.kd _ kp (by omega) (λκ' s'=>κ'=κ/\s'=_) ⟨rfl,rfl⟩) ?_ λ_ _ z=>z.elim);rintro κ' _ ⟨e0,rfl⟩;rw[e0];have ok0:AllOk (λx:Keyed=>x.1∈vs/\x.2=x.1) (vs.toArray.zip vs.toArray):=λi x hx=>by
   have:x∈(vs.toArray.zip vs.toArray).toList:=by rw[Array.mem_toList_iff];exact Array.mem_of_getElem? hx
   rw[zp]at this;obtain⟨v,hv,rfl⟩:=List.mem_map.mp this;exact⟨hv,rfl⟩
  have run:=AR (prog:=prog) (w:=w) (A:=A) (E:=E) (rk:=λx:Keyed=>rv x.1) (κ:=κ) (a0:=vs.toArray.zip vs.toArray) (st:=SortSt.mk' κ (vs.toArray.zip vs.toArray) #[] 7 none)
   (Q:=λ_ st'=>failedOf st'=none/\(arrOf st').toList.Perm (vs.toArray.zip vs.toArray).toList/\Srt (λx:Keyed=>rv x.1) (arrOf st').toList)
   (s:={s with heap:=((s.heap.update a (Obj.mapSeq λ_=>#[])).push (seqObj "tuple" vs.toArray 0)).push (seqObj "list" #[] 0)})
   (λx y hx hy Q' hQ=>B.cp _ kp x.1 y.1 hx.1 hy.1 Q' hQ) ⟨rfl,rfl,ok0,.refl _,rfl,λ_ z=>(nomatch z),rfl⟩ λst' a1 a2 a3=>⟨a1,a2,a3⟩
  refine wpAny_bind (wpAny_mono run ?_ λ_ _ z=>z);rintro⟨⟨⟩,st'⟩ _ ⟨rfl,e1,e2,e3⟩;dsimp only at e1 e2 e3⊢;have hall:∀x∈(arrOf st').toList,x.2=x.1:=λx hx=>by
   have:=e2.mem_iff.mp hx;rw[zp]at this;obtain⟨v,_,rfl⟩:=List.mem_map.mp this;rfl
  have eo:(arrOf st').map (·.2)=((arrOf st').toList.map (·.2)).toArray:=by
   apply Array.toList_inj.mp;rw[Array.toList_map]
  have po:((arrOf st').toList.map (·.2)).Perm vs:=by
   refine(e2.map _).trans ?_;rw[zp,List.map_map];exact(List.map_id _)▸.refl _
  have so:((arrOf st').toList.map (·.2)).Pairwise λx y=>rv x<=rv y:=by
   refine List.pairwise_map.mpr ?_;refine List.Pairwise.imp_of_mem (λ{x y} hx hy hxy=>?_) e3;rw[hall x hx,hall y hy];exact hxy
  have hl:=po.length_eq;rw[show(PyProof.Rows.arrOf st').map (·.2)=((arrOf st').toList.map (·.2)).toArray from eo];refine wpAny_bind (seqEpoch_at hL rfl (wpAny_bind (listUpdate_at hL rfl ?_ (Nat.zero_le _) ?_)))
  ·rw[show PyProof.Rows.failedOf st'=none from e1];simp only[bne_self_eq_false,Bool.false_eq_true,if_false];exact wpAny_pure (h _ po so)
  ·show((arrOf st').toList.map (·.2)).length<=_;omega
theorem rN (hl:s.heap.IsList l vs.toArray) (hz:vs.length<=sizeLine) (B:∀h':Heap,(∀b o,s.heap.get? b=some o->h'.get? b=some o)->SortAll prog w A.in1.in1 {s with heap:=h'} (s.heap.objs.size+1) vs κ rv) (h:∀o:List Value,o.Perm vs->(o.Pairwise λx y=>rv x<=rv y)->Q (.ref (s.heap.objs.size+1)) {s with heap:=sortedAll s.heap vs o.toArray}):wpAny (model prog w) A (call (.builtin "sorted") [.ref l]) Q E s:=by
 refine Calls.call_function_entry kind_sorted plain_sorted entry_sorted (args_sorted1 _) ?_;unfold Builtin.«sorted»;refine wpAny_bind (m:=checkCount "sorted" 1 1 _) (wpAny_pure (wpAny_bind (collect_list hl (wpAny_bind (wpAny_newList ?_ hz)) hz)));have e:((s.heap.push (seqObj "list" #[] 0)).update s.heap.objs.size (Obj.mapSeq (·++vs.toArray))).objs.size=s.heap.objs.size+1:=by rw[Heap.size_update,size_push']
 have hn:(((s.heap.push (seqObj "list" #[] 0)).update s.heap.objs.size (Obj.mapSeq (·++vs.toArray))).push (seqObj "list" vs.toArray 0)).get? (s.heap.objs.size+1)=some (seqObj "list" vs.toArray 0):=by
  rw[<-e];exact Heap.get?_push_size _ rfl
 have kp:∀b o,s.heap.get? b=some o->(((s.heap.push (seqObj "list" #[] 0)).update s.heap.objs.size (Obj.mapSeq (·++vs.toArray))).push (seqObj "list" vs.toArray 0)).get? b=some o:=λb o z=>by
  have lt:=Heap.lt_size z;exact Heap.get?_push_of_some _ (by rw[Heap.get?_update_ne _ _ _ _ (Nat.ne_of_lt lt)];exact Heap.get?_push_of_some _ z)
 show wpAny _ _ _ _ _ {s with heap:=((s.heap.push (seqObj "list" #[] 0)).update s.heap.objs.size (Obj.mapSeq (·++vs.toArray))).push (seqObj "list" vs.toArray 0)};rw[e];exact wpAny_bind (wpAny_holding (wpAny_call_entry slot_list_sort ⟨_,hn,rfl⟩ entry_list_sort (vd hn hz (B _ kp) λo p q=>⟨_,rfl,wpAny_pure ⟨_,rfl,h o p q⟩⟩) (args_list_sort _)))
end
theorem xu:∀a:List Int,HT.lexLt a a=false
 |[]=>rfl
 |x::a=>by rw[HT.lexLt_cons,if_pos rfl];exact xu a
theorem om:∀a b:List Int,HT.lexLt a b=true->HT.lexLt b a=false
 |[],[],_=>rfl
 |[],_::_,_=>rfl
 |_::_,[],h=>by cases h
 |x::a,y::b,h=>by
  rw[HT.lexLt_cons]at h⊢;by_cases q:x=y
  ·rw[if_pos q]at h;rw[if_pos q.symm];exact om a b h
  ·rw[if_neg q]at h;rw[if_neg (Ne.symm q)];have:=of_decide_eq_true h;exact decide_eq_false (by omega)
theorem lh:∀k j i:List Int,HT.lexLt k j=true->HT.lexLt i j=false->HT.lexLt k i=true
 |[],[],_,h,_=>by cases h
 |_::_,[],_,h,_=>by cases h
 |_,_::_,[],_,h=>by cases h
 |[],_::_,_::_,_,_=>rfl
 |x::k,y::j,z::i,h,g=>by
  rw[HT.lexLt_cons]at h g⊢;by_cases q:x=y
  ·rw[if_pos q]at h;by_cases r:z=y
   ·rw[if_pos r]at g;rw[if_pos (q.trans r.symm)];exact lh k j i h g
   ·rw[if_neg r]at g;have:=of_decide_eq_false g;rw[if_neg (by omega)];exact decide_eq_true (by omega)
  ·rw[if_neg q]at h;have h:=of_decide_eq_true h;by_cases r:z=y
   ·rw[if_neg (by omega)];exact decide_eq_true (by omega)
   ·rw[if_neg r]at g;have:=of_decide_eq_false g;rw[if_neg (by omega)];exact decide_eq_true (by omega)
theorem DW (h:HT.lexLt a b=true) (g:HT.lexLt b c=true):HT.lexLt a c=true:=lh a b c h (om b c g)
theorem xv:∀a b:List Int,HT.lexLt a b=false->HT.lexLt b a=false->a=b
 |[],[],_,_=>rfl
 |[],_::_,h,_=>by cases h
 |_::_,[],_,h=>by cases h
 |x::a,y::b,h,g=>by
  rw[HT.lexLt_cons]at h g;by_cases q:x=y
  ·rw[if_pos q]at h;rw[if_pos q.symm]at g;rw[q,xv a b h g]
  ·rw[if_neg q]at h;rw[if_neg (Ne.symm q)]at g;have:=of_decide_eq_false h;have:=of_decide_eq_false g;omega
theorem DX {l:List Nat} (h:∀x,p x=true->q x=true) (hy:y∈l) (h1:q y=true) (h2:p y=false):l.countP p<l.countP q:=by
 induction l with
 |nil=>cases hy
 |cons a l ih=>
  have m:l.countP p<=l.countP q:=List.countP_mono_left λx _ z=>h x z;rcases mem_cons.mp hy with rfl|hy
  ·rw[List.countP_cons,List.countP_cons,h1,h2];simp;omega
  ·have:=ih hy;rw[List.countP_cons,List.countP_cons];have z:(if p a=true then 1 else 0)<=(if q a=true then 1 else 0):=by
    cases e:p a with
    |true=>rw[h a e];simp
    |false=>simp
   omega
noncomputable def rk (n:Nat) (f:Nat->List Int) (i:Nat):Int:=(((List.range n).countP λk=>HT.lexLt (f k) (f i):Nat):Int)
theorem Cd (hi:i<n):HT.lexLt (f i) (f j)=decide (rk n f i<rk n f j):=by
 unfold rk;cases e:HT.lexLt (f i) (f j)with
 |true=>
  refine(decide_eq_true ?_).symm;have:=DX (p:=λk=>HT.lexLt (f k) (f i)) (q:=λk=>HT.lexLt (f k) (f j)) (l:=List.range n) (λx h=>DW h e) (List.mem_range.mpr hi) e (xu _);omega
 |false=>
  refine(decide_eq_false ?_).symm;have:(List.range n).countP (λk=>HT.lexLt (f k) (f j))<=(List.range n).countP (λk=>HT.lexLt (f k) (f i)):=List.countP_mono_left λx _ h=>lh _ _ _ h e;omega
def Jk (f:Nat->List Int) (i j:Nat):Bool:=HT.lexLt (f i) (f j)
def ic:D->Option (Option Nat×List Int)
 |.int i=>some (none,[i])
 |_=>none
noncomputable def bX:List D->Option (List (Option Nat)×List Int)
 |[]=>some ([],[])
 |d::ds=>(ic d).bind λa=>(bX ds).bind λr=>some (a.1::r.1,a.2++r.2)
def lj:D->Option (List (Option Nat)×List Int)
 |.tup ds=>bX ds
 |_=>none
theorem ve (h:ic d=some (a,f)) (g:ic e=some (a,f)):d=e:=by
 cases d with
 |int i=>
  cases h;cases e with
  |int j=>cases g;rfl
  |_=>cases g
 |_=>cases h
def wid:Option Nat->Nat
 |none=>1
 |some n=>n
theorem fR (h:ic d=some (a,f)):f.length=wid a:=by
 cases d with
 |int i=>cases h;rfl
 |_=>cases h
theorem lm:∀ {ds es:List D} {sh:List (Option Nat)} {f:List Int},bX ds=some (sh,f)->bX es=some (sh,f)->ds=es
 |[],[],_,_,_,_=>rfl
 |[],e::es,_,_,h,g=>by
  cases h;obtain⟨a,_,g⟩:=bind_some g;obtain⟨r,_,g⟩:=bind_some g;cases g
 |d::ds,[],_,_,h,g=>by
  cases g;obtain⟨a,_,h⟩:=bind_some h;obtain⟨r,_,h⟩:=bind_some h;cases h
 |d::ds,e::es,sh,f,h,g=>by
  obtain⟨⟨a,x⟩,h1,h⟩:=bind_some h;obtain⟨⟨r,y⟩,h2,h⟩:=bind_some h;cases h;obtain⟨⟨a',x'⟩,g1,g⟩:=bind_some g;obtain⟨⟨r',y'⟩,g2,g⟩:=bind_some g;injection g with g;injection g with ga gb;injection ga with ga1 ga2;dsimp only at ga1 ga2 gb;subst ga1 ga2;obtain⟨q1,q2⟩:=List.append_inj gb ((fR g1).trans (fR h1).symm);subst q1 q2;rw[ve h1 g1,lm h2 g2]
def flt (d:D):List Int:=match lj d with
 |some (_,f)=>f
 |none=>[]
def gB (ds:List D):Prop:=∃sh,sh≠[]/\∀d∈ds,∃f,lj d=some (sh,f)
instance (ds:List D):Decidable (gB ds):=Classical.propDecidable _
def oo (ds:List D):List D:=ds.mergeSort λa b=>!HT.lexLt (flt b) (flt a)
noncomputable def pV:List D->Option (List D):=un1 λd=>(eV d).bind λds=>if ds.length<1024/\gB ds then some (oo ds)else none
theorem xw (h:gB ds) (ha:a∈ds) (hb:b∈ds) (e:flt a=flt b):a=b:=by
 obtain⟨sh,_,z⟩:=h;obtain⟨f,e1⟩:=z a ha;obtain⟨g,e2⟩:=z b hb;unfold flt at e;rw[e1,e2]at e;dsimp only at e;subst e;cases a with
 |tup as=>
  cases b with
  |tup bs=>rw[lm (show bX as=_ from e1) (show bX bs=_ from e2)]
  |_=>cases e2
 |_=>cases e1
theorem iR (ds:List D):(oo ds).Perm ds:=List.mergeSort_perm _ _
theorem pW (ds:List D):(oo ds).Pairwise λa b=>HT.lexLt (flt b) (flt a)=false:=by
 refine(List.pairwise_mergeSort (le:=λa b=>!HT.lexLt (flt b) (flt a)) (λa b c h1 h2=>?_) (λa b=>?_) ds).imp λh=>by simpa using h
 ·simp only[Bool.not_eq_true']at h1 h2⊢;cases e:HT.lexLt (flt c) (flt a)with
  |false=>rfl
  |true=>rw[lh _ _ _ e h1]at h2;cases h2
 ·cases e:HT.lexLt (flt b) (flt a)with
  |false=>rfl
  |true=>rw[om _ _ e];rfl
theorem tY (h:gB ds) (h1:rs.Perm ds) (h2:rs.Pairwise λa b=>HT.lexLt (flt b) (flt a)=false):rs=oo ds:=
 List.Perm.eq_of_pairwise (le:=λa b=>HT.lexLt (flt b) (flt a)=false) (λa b ha hb x y=>xw h (h1.mem_iff.mp ha) ((iR ds).mem_iff.mp hb) (xv _ _ y x)) h2 (pW ds) (h1.trans (iR ds).symm)
theorem bY {α:Type} (x:α):∀l:List α,(List.range l.length).map (λi=>l.getD i x)=l:=λl=>by
 apply List.ext_getElem
 ·simp
 ·intro i h1 h2;simp at h1;simp[h1]
section
variable {X:Cx} {pins:List (Addr×Obj)} {σ:St} {H:Hp} {s:Shared}
theorem xx:∀ {a b:List Int} (x y:List Int),a.length=b.length->HT.lexLt (a++x) (b++y)=if a=b then HT.lexLt x y else HT.lexLt a b
 |[],[],x,y,_=>by rw[if_pos rfl];rfl
 |[],_::_,_,_,h=>by cases h
 |_::_,[],_,_,h=>by cases h
 |u::a,v::b,x,y,h=>by
  rw[List.cons_append,List.cons_append,HT.lexLt_cons,HT.lexLt_cons,xx x y (Nat.succ.inj h)];by_cases q:u=v
  ·rw[if_pos q,if_pos q];by_cases r:a=b
   ·rw[if_pos r,if_pos (by rw[q,r])]
   ·rw[if_neg r,if_neg (λz=>r (List.cons.inj z).2)]
  ·rw[if_neg q,if_neg q,if_neg (λz=>q (List.cons.inj z).1)]
theorem lq (h:ic d=some z):okE d=true/\dep d<=1:=by
 cases d with
 |int i=>exact⟨rfl,Nat.zero_le _⟩
 |_=>cases h
theorem xy (I:Inv X pins σ H s) (hu:A.units+1<cLine) (h1:ic d=some (a,f)) (h2:ic e=some (a,g)) (ix:Is X.K H d x) (iy:Is X.K H e y) (rx:RelV x p) (ry:RelV y q):
  SeqAt.EqAt A s p q (decide (f=g))/\∀ (b:Bool) (Q:Bool->Shared->Prop),(b=true->a=none)->Q (HT.lexLt f g) s->wpAny (model X.prog X.w) A (oneLt' b p q) Q (λ_ _=>False) s:=by
 have eq:=wE I 1 A d e x y p q (lq h1).2 (by omega) (lq h1).1 (lq h2).1 ix iy rx ry
 cases d with
 |int i=>
  cases h1;cases e with
  |int j=>
   cases h2;refine⟨?_,λb Q hb hq=>?_⟩
   ·have z:eqD (.int i) (.int j)=decide ([i]=[j]):=by
     show(i==j)=_;by_cases c:i=j
     ·simp[c]
     ·simp[c]
    rw[<-z];exact eq
   ·cases(show x=.int i from ix);cases(show y=.int j from iy);obtain⟨t,rfl⟩:=rx;obtain⟨u,rfl⟩:=ry;have hq':Q (decide (i<j)) s:=by
     have z:HT.lexLt [i] [j]=decide (i<j):=by
      rw[HT.lexLt_cons];by_cases c:i=j
      ·rw[if_pos c];exact(decide_eq_false (by omega)).symm
      ·rw[if_neg c]
     rw[<-z];exact hq
    cases b with
    |true=>exact oneLt_int hq'
    |false=>exact PySem.W.kat_one _ _ (lt_int hq')
  |_=>cases h2
 |_=>cases h1
theorem nr (I:Inv X pins σ H s) (hu:A.units+1<cLine):∀ {ds es:List D} {sh:List (Option Nat)} {f g:List Int} {xs ys:List V} {ps qs:List Value} (i:Nat),bX ds=some (sh,f)->bX es=some (sh,g)->IsL X.K H ds xs->IsL X.K H es ys->Vals xs ps->Vals ys qs->
  (b=true->i=0->sh.head?=some none)->fin=false->Q (HT.lexLt f g) s->PySem.W.KatLex X.prog X.w A b fin Q (ps.zip qs) i s
 |[],[],sh,f,g,xs,ys,ps,qs,i,h1,h2,l1,l2,r1,r2,hb,hf,hq=>by
  cases h1;cases h2;cases(show xs=[]from l1);cases(show ys=[]from l2);cases r1;cases r2;rw[hf];exact hq
 |[],e::es,sh,f,g,xs,ys,ps,qs,i,h1,h2,l1,l2,r1,r2,hb,hf,hq=>by
  cases h1;obtain⟨a,_,h2⟩:=bind_some h2;obtain⟨r,_,h2⟩:=bind_some h2;cases h2
 |d::ds,[],sh,f,g,xs,ys,ps,qs,i,h1,h2,l1,l2,r1,r2,hb,hf,hq=>by
  cases h2;obtain⟨a,_,h1⟩:=bind_some h1;obtain⟨r,_,h1⟩:=bind_some h1;cases h1
 |d::ds,e::es,sh,f,g,xs,ys,ps,qs,i,h1,h2,l1,l2,r1,r2,hb,hf,hq=>by
  obtain⟨⟨a,f1⟩,h3,h1⟩:=bind_some h1;obtain⟨⟨s1,f2⟩,h4,h1⟩:=bind_some h1;cases h1;obtain⟨⟨a',g1⟩,h5,h2⟩:=bind_some h2;obtain⟨⟨s2,g2⟩,h6,h2⟩:=bind_some h2;injection h2 with h2;injection h2 with h7 h8;injection h7 with h9 h10;dsimp only at h8 h9 h10;subst h8 h9 h10;obtain⟨x,xr,rfl,ix,l1⟩:=l1;obtain⟨y,yr,rfl,iy,l2⟩:=l2;cases r1 with
  |cons rx r1=>
   cases r2 with
   |cons ry r2=>
    obtain⟨c1,c2⟩:=xy I hu h3 h5 ix iy rx ry;dsimp only at hq;rw[xx f2 g2 ((fR h3).trans (fR h5).symm)]at hq;rw[List.zip_cons_cons];refine PySem.W.kat_cons (c1 X.prog X.w _ _ ?_);by_cases q:f1=g1
    ·rw[if_pos q]at hq;rw[decide_eq_true q];exact PySem.W.kat_yes (nr I hu (i+1) h4 h6 l1 l2 r1 r2 (λ_ z=>absurd z (by omega)) hf hq)
    ·rw[if_neg q]at hq;rw[decide_eq_false q];refine PySem.W.kat_no (c2 _ _ (λz=>?_) hq);rw[and_eq_true,beq_iff_eq]at z;have:=hb z.1 z.2;injection this
end
theorem lu {α β:Type} {f}:∀ {o:List β} {l:List α},o.Perm (l.map f)->∃l':List α,l'.Perm l/\o=l'.map f
 |[],l,h=>by
  have:=h.length_eq;rw[length_map]at this;have e:l=[]:=List.eq_nil_of_length_eq_zero this.symm;subst e;exact⟨[],.refl _,rfl⟩
 |x::o,l,h=>by
  obtain⟨a,ha,rfl⟩:=List.mem_map.mp (h.mem_iff.mp mem_cons_self);obtain⟨s,t,rfl⟩:=List.append_of_mem ha;have h2:(f a::o).Perm (f a::(s++t).map f):=by
   refine h.trans ?_;rw[List.map_append,List.map_append,List.map_cons];exact List.perm_middle
  obtain⟨l',p,rfl⟩:=lu (List.Perm.cons_inv h2);exact⟨a::l',(p.cons a).trans List.perm_middle.symm,rfl⟩
noncomputable def xz (vs:List Value) (rk:Nat->Int) (v:Value):Int:=@dite _ (∃i,i<vs.length/\vs.getD i .none=v) (Classical.propDecidable _) (λh=>rk (Classical.choose h)) λ_=>0
theorem oq {rk} (h:v∈vs):∃i,i<vs.length/\vs.getD i .none=v/\xz vs rk v=rk i:=by
 have q:∃i,i<vs.length/\vs.getD i .none=v:=by
  obtain⟨i,hi,e⟩:=List.mem_iff_getElem.mp h;exact⟨i,hi,by rw[List.getD_eq_getElem?_getD,getElem?_eq_getElem hi];exact e⟩
 refine⟨Classical.choose q,(Classical.choose_spec q).1,(Classical.choose_spec q).2,?_⟩;unfold xz;rw[dif_pos q]
theorem vg {rk} (B:SortBy prog w A s a vs κ c) (hc:∀i j,i<vs.length->j<vs.length->c i j=decide (rk i<rk j)):
  SortAll prog w A s a vs κ (xz vs rk):=by
 refine⟨B.kd,λh' k x y hx hy Q hq=>?_⟩
 obtain⟨i,hi,ei,ri⟩:=oq (rk:=rk) hx
 obtain⟨j,hj,ej,rj⟩:=oq (rk:=rk) hy
 rw[ri,rj,<-hc i j hi hj]at hq
 have:=B.cp h' k i j hi hj Q hq
 rwa [ei,ej]at this
section
variable {X:Cx} {pins:List (Addr×Obj)} {σ:St} {H:Hp} {s:Shared}
theorem xA (I:Inv X pins σ H s) (h:ic d=some z) (g:ic e=some z') (ix:Is X.K H d x) (iy:Is X.K H e x):d=e:=by
 cases d with
 |int i=>
  cases(show x=.int i from ix);cases e with
  |int j=>cases(show V.int i=.int j from iy);rfl
  |_=>cases g
 |_=>cases h
theorem nt (I:Inv X pins σ H s):∀ {ds es:List D} {z z':List (Option Nat)×List Int} {xs:List V},bX ds=some z->bX es=some z'->IsL X.K H ds xs->IsL X.K H es xs->ds=es
 |[],[],_,_,_,_,_,_,_=>rfl
 |[],e::es,_,_,xs,_,_,l1,l2=>by
  cases(show xs=[]from l1);obtain⟨_,_,q,_⟩:=l2;cases q
 |d::ds,[],_,_,xs,_,_,l1,l2=>by
  cases(show xs=[]from l2);obtain⟨_,_,q,_⟩:=l1;cases q
 |d::ds,e::es,_,_,xs,h,g,l1,l2=>by
  obtain⟨a,h1,h⟩:=bind_some h;obtain⟨r,h2,h⟩:=bind_some h;obtain⟨a',g1,g⟩:=bind_some g;obtain⟨r',g2,g⟩:=bind_some g;obtain⟨x,xr,rfl,ix,l1⟩:=l1;obtain⟨y,yr,q,iy,l2⟩:=l2;injection q with q1 q2;subst q1 q2;rw[xA I h1 g1 ix iy,nt I h2 g2 l1 l2]
theorem xB (I:Inv X pins σ H s) (h:lj d=some z) (g:lj e=some z') (ix:Is X.K H d x) (iy:Is X.K H e y) (rx:RelV x u) (ry:RelV y u):d=e:=by
 have q:x=y:=Option.some.inj (rx.abs.symm.trans ry.abs);subst q;cases d with
 |tup ds=>
  cases e with
  |tup es=>
   obtain⟨b,xs,rfl,t1,l1⟩:=ix;obtain⟨b',ys,q,t2,l2⟩:=iy;cases q;have e1:=I.tuple_inj t1 t2;subst e1;rw[nt I (show bX ds=_ from h) (show bX es=_ from g) l1 l2]
  |_=>cases g
 |_=>cases h
end
section
variable {X:Cx} {a:Expr} {p pos:Pos}
theorem bA {as:List α} {bs:List β} (h:Paired F as bs) (hi:i<as.length) (x:α) (y:β):F (as.getD i x) (bs.getD i y):=by
 obtain⟨z,e,f⟩:=gu h (i:=i) (x:=as[i]) (getElem?_eq_getElem hi);rw[List.getD_eq_getElem?_getD,List.getD_eq_getElem?_getD,getElem?_eq_getElem hi,e];exact f
theorem fz {as:List α} {bs:List β} (h:Paired F as bs) (x:α) (y:β):∀ {l:List Nat},(∀i∈l,i<as.length)->Paired F (l.map λi=>as.getD i x) (l.map λi=>bs.getD i y)
 |[],_=>.nil
 |i::l,z=>.cons (bA h (z i mem_cons_self) x y) (fz h x y λj hj=>z j (mem_cons_of_mem _ hj))
theorem lv (h:lj d=some z):∃ds,d=.tup ds/\bX ds=some z:=by
 cases d with
 |tup ds=>exact⟨ds,rfl,h⟩
 |_=>cases h
def kindT (sh:List (Option Nat)):Bool:=decide (sh.head?=some none)
theorem AS {σ:St} (I:Inv X pins σ H s) (hu:A.units+1<cLine) (il:IsL X.K H ds xs) (r:Vals xs us) (hne:sh≠[]) (hs:∀d∈ds,∃f,lj d=some (sh,f)) {a:Addr} (ha:s.heap.objs.size<=a) (h1:Heap) (k1:∀b o,s.heap.get? b=some o->h1.get? b=some o):SortBy X.prog X.w A {s with heap:=h1} a us (tuples' (kindT sh)) (Jk λi=>flt (ds.getD i .non)):=by
 have keep:∀h',(∀b o,b≠a->h1.get? b=some o->h'.get? b=some o)->Inv X pins σ H {s with heap:=h'}:=λh' k=>I.kept (t':=s.toks) λb o q=>k b o (Nat.ne_of_lt (lt_of_lt_of_le (Heap.lt_size q) ha)) (k1 b o q);have len1:=il.len;have len2:=r.length;refine⟨λh' k h2 Q hq=>?_,λh' k i j hi hj Q hq=>?_⟩
 ·have J:=keep h' k;-- the first items
  have first:∀ {ds:List D} {xs:List V} {us:List Value},IsL X.K H ds xs->Vals xs us->(∀d∈ds,∃f,lj d=some (sh,f))->∃fs,PySem.W.KatTups h' us fs/\fs.length=us.length/\∀v∈fs,∀M,PySem.W.Looks M h' (typeOf v) (if kindT sh then .type "int"else .type "tuple"):=by
   intro ds;induction ds with
   |nil=>
    intro xs us il r _;cases(show xs=[]from il);cases r;exact⟨[],trivial,rfl,λ_ z=>nomatch z⟩
   |cons d ds ih=>
    intro xs us il r hs;obtain⟨x,xr,rfl,ix,il⟩:=il;cases r with
    |cons rx r=>
     obtain⟨fs,q1,q2,q3⟩:=ih il r λe he=>hs e (mem_cons_of_mem _ he);obtain⟨f,e⟩:=hs d mem_cons_self;obtain⟨is,rfl,e⟩:=lv e;obtain⟨b,ys,rfl,t,l⟩:=ix;cases rx;obtain⟨its,rv,⟨o,p1,p2,n,p3⟩,_⟩:=J.tuple t;cases is with
     |nil=>cases e;exact absurd rfl hne
     |cons i0 is=>
      obtain⟨⟨a0,f1⟩,e1,e⟩:=bind_some e;obtain⟨⟨s1,f2⟩,e2,e⟩:=bind_some e;cases e;obtain⟨y,yr,rfl,iy,l⟩:=l;cases rv with
      |@cons _ v _ vr ry rv=>
       refine⟨v::fs,⟨⟨b,o,_,n,rfl,p1,p2,p3,rfl⟩,q1⟩,by rw[length_cons,length_cons,q2],λv' hv M=>?_⟩;rcases mem_cons.mp hv with rfl|hv
       ·cases i0 with
        |int i=>
         cases e1;cases(show y=.int i from iy);obtain⟨tk,rfl⟩:=ry;rw[show kindT (none::s1)=true from rfl,if_pos rfl];exact PySem.W.Looks.of_pure rfl
        |_=>cases e1
       ·exact q3 v' hv M
  obtain⟨fs,q1,q2,q3⟩:=first il r hs
  refine PySem.W.kat_kind (T:=if kindT sh then .type "int"else .type "tuple") q1 (by omega) (λv hv=>q3 v hv _) (by cases kindT sh<;>decide) ?_;have e:((if kindT sh then Value.type "int"else .type "tuple") !=Value.type "tuple")=kindT sh:=by cases kindT sh<;>decide
  rw[e];exact hq
 ·have J:=keep h' k;have hi':i<ds.length:=by omega
  have hj':j<ds.length:=by omega
  have ix:=bA il.paired hi' .non .non;have iy:=bA il.paired hj' .non .non;have rx:=bA r (i:=i) (by omega) .non .none;have ry:=bA r (i:=j) (by omega) .non .none;obtain⟨f,e1⟩:=hs (ds.getD i .non) (by rw[List.getD_eq_getElem?_getD,getElem?_eq_getElem hi'];exact List.getElem_mem hi');obtain⟨g,e2⟩:=hs (ds.getD j .non) (by rw[List.getD_eq_getElem?_getD,getElem?_eq_getElem hj'];exact List.getElem_mem hj');have hq:Q (HT.lexLt (flt (ds.getD i .non)) (flt (ds.getD j .non))) {s with heap:=h'}:=hq;generalize ds.getD i .non=d at ix e1 hq;generalize ds.getD j .non=e at iy e2 hq;generalize xs.getD i .non=x at ix rx;generalize xs.getD j .non=y at iy ry;generalize us.getD i .none=u at rx;generalize us.getD j .none=v at ry;unfold flt at hq;rw[e1,e2]at hq;dsimp only at hq;obtain⟨as,rfl,e1⟩:=lv e1;obtain⟨bs,rfl,e2⟩:=lv e2;obtain⟨b1,x1,rfl,t1,l1⟩:=ix;obtain⟨b2,x2,rfl,t2,l2⟩:=iy;cases rx;cases ry;obtain⟨it1,rv1,⟨o1,p1,_,n1,p3⟩,_⟩:=J.tuple t1;obtain⟨it2,rv2,⟨o2,w1,_,n2,w3⟩,_⟩:=J.tuple t2;have sz:∀ {ds:List D} {sh:List (Option Nat)} {f:List Int},bX ds=some (sh,f)->ds.length=sh.length:=λ{ds}=>by
   induction ds with
   |nil=>intro sh f h;cases h;rfl
   |cons d ds ih=>
    intro sh f h;obtain⟨z,_,h⟩:=bind_some h;obtain⟨⟨r1,r2⟩,h2,h⟩:=bind_some h;cases h;rw[length_cons,length_cons,ih h2]
  have z1:it1.length=sh.length:=by rw[<-rv1.length,<-l1.len,sz e1]
  have z2:it2.length=sh.length:=by rw[<-rv2.length,<-l2.len,sz e2]
  refine PySem.W.kat_lt p1 p3 w1 w3 (nr J hu 0 e1 e2 l1 l2 rv1 rv2 (λhb _=>of_decide_eq_true hb) (decide_eq_false ?_) hq);show¬it1.length<it2.length;omega
noncomputable def DY (K:Frag):List V->Hp->VK->Prop:=λvs H Q=>∃l ds xs,vs=[.ref l]/\SqL K H l xs/\IsL K H ds xs/\ds.length<1024/\gB ds/\
 ∀ (q:Addr) (ls:List Nat),H q=none->(∀i∈ls,i<ds.length)->ls.map (λi=>ds.getD i .non)=oo ds->Q (.ref q) (upd H q (.lst (ls.map λi=>xs.getD i .non)))
theorem iT {α:Type} {l:List α} (h:i<l.length) (x:α):l.getD i x∈l:=by
 rw[List.getD_eq_getElem?_getD,getElem?_eq_getElem h];exact List.getElem_mem h
theorem rO (hr:Room k X.A):dk X (.builtin "sorted") (DY X.K):=by
 intro pins s σ H xs us Q I r h;obtain⟨l,ds,ys,rfl,hx,il,h64,hs,q⟩:=h;obtain⟨u,rfl,ru⟩:=f6 r;cases ru;obtain⟨its,rv,pl,hz⟩:=I.list hx;have hl:=rv.length;have hd:=il.len;obtain⟨sh,hne,hs'⟩:=id hs;have big:(1024:Nat)<=sizeLine:=by decide
 refine rN (κ:=tuples' (kindT sh)) (rv:=xz its (rk ds.length λi=>flt (ds.getD i .non))) pl.isList (by omega) (λh' k'=>vg (AS I (by have:=hr.un;show X.A.units+1+1+1<_;omega) il rv hne hs' (Nat.le_succ _) h' k') λi j hi hj=>by exact Cd (n:=ds.length) (f:=λi=>flt (ds.getD i .non)) (i:=i) (j:=j) (by omega)) λo op os=>?_;have op':o.Perm ((List.range its.length).map λi=>its.getD i .none):=by rw[bY];exact op
 obtain⟨ls,lp,rfl⟩:=lu op';have e2:∀i∈ls,i<ds.length:=λi hi=>by
  have:=List.mem_range.mp (lp.mem_iff.mp hi);omega
 have one:∀i,i<ds.length->∃j,j<ds.length/\flt (ds.getD j .non)=flt (ds.getD i .non)/\xz its (rk ds.length λi=>flt (ds.getD i .non)) (its.getD i .none)=rk ds.length (λi=>flt (ds.getD i .non)) j:=λi hi=>by
  obtain⟨j,hj,e,z⟩:=oq (rk:=rk ds.length λi=>flt (ds.getD i .non)) (iT (show i<its.length by omega) Value.none);have hj':j<ds.length:=by omega
  refine⟨j,hj',?_,z⟩;obtain⟨f,f1⟩:=hs' _ (iT hi .non);obtain⟨g,g1⟩:=hs' _ (iT hj' .non);have rj:=bA rv (i:=j) (by omega) .non .none;rw[e]at rj;rw[xB I g1 f1 (bA il.paired hj' .non .non) (bA il.paired hi .non .non) rj (bA rv (i:=i) (by omega) .non .none)]
 have e3:ls.map (λi=>ds.getD i .non)=oo ds:=by
  refine tY hs ?_ ?_
  ·have:=lp.map λi=>ds.getD i .non;rwa [show its.length=ds.length by omega,bY]at this
  ·refine List.pairwise_map.mpr ((List.pairwise_map.mp os).imp_of_mem λ{i j} hi hj h=>?_);obtain⟨i',hi',e4,e5⟩:=one i (e2 i hi);obtain⟨j',hj',e6,e7⟩:=one j (e2 j hj);rw[e5,e7]at h;rw[<-e4,<-e6,Cd (f:=λi=>flt (ds.getD i .non)) hj'];exact decide_eq_false (by omega)
 obtain⟨e,he⟩:=sortedAll_at s.heap its (ls.map λi=>its.getD i .none).toArray;have fr:H (s.heap.objs.size+1)=none:=I.hok.fresh (Nat.le_succ _);have hln:(ls.map λi=>ys.getD i V.non).length<1024:=by
  have:=congrArg List.length e3;rw[length_map,(iR ds).length_eq]at this;rw[length_map];omega
 refine⟨.ref _,_,I.laid (t':=s.toks) (λb o q=>sortedAll_old q) (Nat.le_succ _) (o:=.lst (ls.map λi=>ys.getD i V.non)) ⟨?_,ls.map (λi=>its.getD i .none),e,fz rv .non .none (λi hi=>by have:=e2 i hi;omega),by simpa using he⟩,rfl,q _ ls fr e2 e3⟩;omega
theorem xC (hr:Room k X.A) (hg:Gl X "sorted") (hm:X.mg "sorted"=none) (ha:PX X [a] fa) (hs:starEach [a] X.env=[(false,eval a X.env)]):
  PF X (.Call (.Name "sorted" p) [a] [] pos) (λY=>(fa Y).bind pV):=λO Y=>(kn (rO hr) hg hm xj (ha O Y) (by decide) (by decide) (by rw[hs];rfl) rfl).imp λσ H Q ⟨E,ds,q,k⟩=>by
 obtain⟨as,e1,q⟩:=bind_some q
 refine⟨E,as,e1,λvs H1 s1 il=>?_⟩
 obtain⟨c,rfl,q2⟩:=bu q
 obtain⟨xs,q3,q4⟩:=bind_some q2
 obtain⟨⟨h64,hs⟩,q7⟩:=ay q4
 subst q7
 obtain⟨v,rfl,h⟩:=is1 il
 obtain⟨l,ys,rfl,t,l2⟩:=cH q3 h
 refine⟨l,xs,ys,rfl,msk_le.seq t,l2.full,h64,hs,λb ls hb hls e=>k b _ H1 s1 hb ?_⟩
 rw[<-e]
 exact IsL.of (fz l2.paired .non .non hls)
def bT (ds:List D):Option (List D):=match jy ds with
 |some r=>some r
 |none=>pV ds
theorem fS (h:jy ds=some r):bT ds=some r:=by unfold bT;rw[h]
theorem AT (h:jy ds=none) (g:pV ds=some r):bT ds=some r:=by unfold bT;rw[h];exact g
theorem xD (hr:Room k X.A) (hg:Gl X "sorted") (hm:X.mg "sorted"=none) (ha:PX X [a] fa) (hs:starEach [a] X.env=[(false,eval a X.env)]):
  PF X (.Call (.Name "sorted" p) [a] [] pos) (λY=>(fa Y).bind bT):=λO Y=>by
 have h1:=AQ (p:=p) (pos:=pos) hg hm ha hs O Y
 have h2:=xC (p:=p) (pos:=pos) hr hg hm ha hs O Y
 dsimp only at h1 h2⊢
 cases e:fa Y with
 |none=>rw[e]at h1;exact h1
 |some ds=>
  rw[e]at h1 h2;cases e2:jy ds with
  |some r=>
   have z:(some ds).bind bT=(some ds).bind jy:=by show bT ds=jy ds;rw[fS e2,e2]
   rw[z];exact h1
  |none=>
   have z:(some ds).bind bT=(some ds).bind pV:=by show bT ds=pV ds;unfold bT;rw[e2]
   rw[z];exact h2
end
section
variable {X:Cx} {a:Expr} {p p2 pos pos2:Pos}
theorem ly:∀ (l:List Value) (k:Int),(∀ (i:Nat) (v:Value),l[i]?=some v->∃t,v=Value.int (k+(i:Int)) t)->Vals ((List.range l.length).map λ(i:Nat)=>V.int (k+(i:Int))) l
 |[],_,_=>.nil
 |v::l,k,h=>by
  rw[length_cons,List.range_succ_eq_map,List.map_cons,List.map_map];obtain⟨t,e⟩:=h 0 v rfl;refine .cons ⟨t,by simpa using e⟩ ?_;have:=ly l (k+1) λi w q=>by
   obtain⟨t,e⟩:=h (i+1) w (by simpa using q);exact⟨t,by rw[e];congr 1;omega⟩
  have e2:((List.range l.length).map λ(i:Nat)=>V.int (k+1+(i:Int)))=(List.range l.length).map ((λ(i:Nat)=>V.int (k+(i:Int)))∘Nat.succ):=by
   apply List.map_congr_left;intro i _;show V.int _=V.int _;congr 1;simp;omega
  rw[<-e2];exact this
noncomputable def tLr (ta:TA):TE:=λσ H Q=>ta σ H λvs H1=>∃j:Int,vs=[.int j]/\inR j/\j<1000000/\∀q,H1 q=none->Q (.ref q) (upd H1 q (.lst ((List.range j.toNat).map λ(i:Nat)=>V.int (i:Int))))
theorem AU (hc:X.calm=true) (hg:Gl X "list") (hm:X.mg "list"=none) (hg2:Gl X "range") (hm2:X.mg "range"=none) (ha:PA X [a] ta) (hs:starEach [a] X.env=[(false,eval a X.env)]):
  PE X (.Call (.Name "list" p) [.Call (.Name "range" p2) [a] [] pos2] [] pos) (tLr ta):=by
 intro pins s σ H Q I h
 refine wpAny_Call_Name_kw (gp I hg hm GC (PyProof.Rows.callWith_type1 ?_ rfl rfl))
 show wpAny _ _ (spliced ((false,eval (.Call (.Name "range" p2) [a] [] pos2) X.env)::[])) _ _ s
 refine Calls.spliced_cons ?_
 refine wpAny_Call_Name_kw (gp I hg2 hm2 boot_range (PyProof.Rows.callWith_type1 (thn (ha pos2 pins s σ H _ I h) λus s1 ⟨vs,H1,I1,r1,q1⟩=>?_) (by rw[hs];rfl) rfl))
 obtain⟨j,rfl,hj,hj2,q⟩:=q1
 obtain⟨u,rfl,ru⟩:=f6 r1
 obtain⟨t,rfl⟩:=ru
 have hj':-(2^62)<=j/\j<2^62:=hj
 refine call_range_1 (Calls.spliced_nil ?_)
 have up:∀d o,s1.heap.get? d=some o->(s1.heap.push {cls:=.type "range",data:=.fields #[.int 0 s1.toks,.int j t,.int 1 (s1.toks+1)]}).get? d=some o:=λd o e=>Heap.get?_push_of_some _ e
 have I2:Inv X pins σ H1 {s1 with heap:=s1.heap.push {cls:=.type "range",data:=.fields #[.int 0 s1.toks,.int j t,.int 1 (s1.toks+1)]},toks:=s1.toks+1+1}:=I1.kept up
 have hn:Builtin.Range.rangeSize 0 j 1=(j.toNat:Nat):=by rw[rangeSize_one];split<;>omega
 refine call_list_range (n:=j.toNat) (I1.ok.hd hc) (IsRange.new ..) (small_one (by omega) (by omega) hj'.1 hj'.2) hn (by omega) λg tk acc c k hgS hi=>?_
 have fr:H1 (s1.heap.push {cls:=.type "range",data:=.fields #[.int 0 s1.toks,.int j t,.int 1 (s1.toks+1)]}).objs.size=none:=I2.hok.fresh (le_refl _)
 refine⟨.ref _,_,I2.laid (t':=tk) (o:=.lst ((List.range j.toNat).map λ(i:Nat)=>V.int (i:Int))) k (le_refl _) ⟨?_,acc.toList,c,?_,by simpa using hgS⟩,rfl,q _ fr⟩
 ·rw[length_map,length_range,sizeLine_eq];omega
 ·have:=ly acc.toList 0 λi v e=>by
   obtain⟨t,z⟩:=hi.2 i v (by rw[<-Array.getElem?_toList];exact e);exact⟨t,by rw[z];congr 1;omega⟩
  rw[Array.length_toList,hi.1]at this;simpa using this
noncomputable def lrD:List D->Option (List D):=un1 λd=>(intD d).bind λj=>if inR j/\j<1000000 then some (jM 0 j.toNat)else none
theorem AV (hc:X.calm=true) (hg:Gl X "list") (hm:X.mg "list"=none) (hg2:Gl X "range") (hm2:X.mg "range"=none) (ha:PX X [a] fa) (hs:starEach [a] X.env=[(false,eval a X.env)]):
  PF X (.Call (.Name "list" p) [.Call (.Name "range" p2) [a] [] pos2] [] pos) (λY=>(fa Y).bind lrD):=λO Y=>(AU hc hg hm hg2 hm2 (ha O Y) hs).imp λσ H Q ⟨E,ds,q,k⟩=>by
 obtain⟨as,e1,q⟩:=bind_some q
 refine⟨E,as,e1,λvs H1 s1 il=>?_⟩
 obtain⟨c,rfl,q2⟩:=bu q
 obtain⟨j,q3,q4⟩:=bind_some q2
 obtain⟨h1,h2⟩:=ay q4
 subst h2
 obtain⟨v,rfl,h⟩:=is1 il
 cases intD_some q3
 refine⟨j,by rw[show v=.int j from h],h1.1,h1.2,λb hb=>k b _ H1 s1 hb ?_⟩
 have e:jM 0 j.toNat=((List.range j.toNat).map λ(i:Nat)=>(i:Int)).map D.int:=by unfold jM;rw[List.map_map];apply List.map_congr_left;intro i _;simp
 have e2:((List.range j.toNat).map λ(i:Nat)=>V.int (i:Int))=((List.range j.toNat).map λ(i:Nat)=>(i:Int)).map V.int:=by rw[List.map_map];rfl
 rw[e,e2]
 exact kW _
end
section
variable {X:Cx} {e:Expr} {pos:Pos}
theorem nu:∀ (bs:List Bool),((List.range bs.length).any λi=>bs.getD i false)=bs.any (λz=>z)
 |[]=>rfl
 |b::bs=>by
  rw[length_cons,List.range_succ_eq_map,List.any_cons,List.any_map,List.any_cons,<-nu bs];rfl
theorem call_any (hc:X.calm=true):dk X (.builtin "any") (λxs H Q=>∃ (p:Addr) (bs:List Bool),xs=[.ref p]/\SqL X.K H p (bs.map V.bl)/\Q (.bl (bs.any (λz=>z))) H):=by
 intro pins s σ H xs us Q I r h;obtain⟨l,bs,rfl,hl,q⟩:=h;obtain⟨u,rfl,ru⟩:=f6 r;cases ru;obtain⟨its,rv,pl,hz⟩:=I.list hl;have eb:=kM rv;subst eb;have hL:=pl.isList;have hlt:l<s.heap.objs.size:=by obtain⟨_,e,_⟩:=hL;exact Heap.lt_size e
 refine call_any_walk (wpAny_pyIter_list hL ?_);refine⟨s.heap.objs.size,[s.heap.objs.size,l],[s.heap.objs.size],_,_,_,λi=>bs.getD i false,rfl,Walks.list (A:=X.A.in1) (I.ok.hd hc) _ l (Nat.ne_of_lt hlt) (bs.map Value.bool).toArray,
  ⟨⟨_,Heap.get?_push_size _ rfl,rfl,rfl⟩,hL.push _⟩,λi v s' Q' E' hP hQ=>?_,λh' tk hk=>?_⟩
 ·have hP':(bs.map Value.bool)[i]?=some v:=by simpa using hP
  rw[getElem?_map]at hP';cases e:bs[i]? with
  |none=>rw[e]at hP';cases hP'
  |some b=>
   rw[e]at hP';cases hP';have e':bs.getD i false=b:=by rw[List.getD_eq_getElem?_getD,e];rfl
   dsimp only at hQ;rw[e']at hQ;exact wpAny_truthy_bool hQ
 ·have e:((List.range (bs.map Value.bool).toArray.size).any λi=>bs.getD i false)=bs.any (λz=>z):=by
   rw[size_toArray,length_map];exact nu bs
  rw[e];exact⟨.bl _,H,I.kept (t':=tk) λb o ho=>hk b o (λhm=>by rw[mem_singleton.mp hm]at ho;exact Nat.lt_irrefl _ (Heap.lt_size ho)) (Heap.get?_push_of_some _ ho),rfl,q⟩
def xF:List D->Option D:=un1 λd=>(eV d).bind λds=>(uS ds).bind λbs=>some (.bl (bs.any (λz=>z)))
theorem rn_any:RnD X.K (λxs H Q=>∃ (p:Addr) (bs:List Bool),xs=[.ref p]/\SqL X.K H p (bs.map V.bl)/\Q (.bl (bs.any (λz=>z))) H) xF:=λO H xs ds d Q hd l e k=>by
 obtain⟨c,rfl,e⟩:=bu e;obtain⟨es,e1,e2⟩:=bind_some e;obtain⟨bs,e3,e4⟩:=bind_some e2;cases e4;obtain⟨v,rfl,h⟩:=is1 l;obtain⟨p,ys,rfl,q,l2⟩:=cH e1 h;rw[nU e3 l2]at q;exact⟨p,bs,rfl,msk_le.seq q,k _ H (Same.refl _) rfl⟩
end
def insL (k:Nat) {α:Type} (l:List α) (x:α):List α:=l.take k++x::l.drop k
theorem DeepL.appR {K} (h2:DeepL K M H es ys C):∀ {ds:List D} {xs:List V} {A:List Addr},DeepL K M H ds xs A->DeepL K M H (ds++es) (xs++ys) (A++C)
 |[],xs,A,h=>by obtain⟨rfl,rfl⟩:=h;exact h2
 |d::ds,xs,A,⟨x,r,A1,A2,e1,e2,g1,g2⟩=>by
  subst e1 e2;exact⟨x,r++ys,A1,A2++C,rfl,List.append_assoc ..,g1,DeepL.appR h2 g2⟩
theorem DeepL.cutAt {K}:∀ {ds:List D} {xs:List V} {A:List Addr} (k:Nat),DeepL K M H ds xs A->∃A1 A2,A=A1++A2/\DeepL K M H (ds.take k) (xs.take k) A1/\DeepL K M H (ds.drop k) (xs.drop k) A2
 |ds,xs,A,0,h=>⟨[],A,rfl,⟨rfl,rfl⟩,h⟩
 |[],xs,A,k+1,h=>by obtain⟨rfl,rfl⟩:=h;exact⟨[],[],rfl,⟨rfl,rfl⟩,⟨rfl,rfl⟩⟩
 |d::ds,xs,A,k+1,⟨x,r,A1,A2,e1,e2,g1,g2⟩=>by
  subst e1 e2;obtain⟨B1,B2,e,q1,q2⟩:=DeepL.cutAt k g2;subst e;exact⟨A1++B1,B2,(List.append_assoc ..).symm,⟨x,_,A1,B1,rfl,rfl,g1,q1⟩,q2⟩
theorem GJ (k:Nat):lsW (insL k):=λ{K M H ds xs A A1 d v} h q nd=>by
 obtain⟨B1,B2,rfl,q1,q2⟩:=DeepL.cutAt k h;have q3:DeepL K M H (d::ds.drop k) (v::xs.drop k) (A1++B2):=⟨v,_,A1,B2,rfl,rfl,q,q2⟩;refine⟨B1++(A1++B2),DeepL.appR q3 q1,?_,λb hb=>?_⟩
 ·have p:(B1++(A1++B2)).Perm (B1++B2++A1):=by
   rw[List.append_assoc];exact List.Perm.append_left _ List.perm_append_comm
  exact p.nodup_iff.mpr nd
 ·simp only[mem_append]at hb⊢;rcases hb with hb|hb|hb
  ·exact .inl (.inl hb)
  ·exact .inr hb
  ·exact .inl (.inr hb)
theorem IsL.takeD {K}:∀ {ds:List D} {xs:List V} (k:Nat),IsL K M ds xs->IsL K M (ds.take k) (xs.take k)/\IsL K M (ds.drop k) (xs.drop k)
 |ds,xs,0,h=>⟨rfl,h⟩
 |[],xs,k+1,h=>by cases(show xs=[]from h);exact⟨rfl,rfl⟩
 |d::ds,xs,k+1,⟨x,r,e,g1,g2⟩=>by
  subst e;obtain⟨q1,q2⟩:=IsL.takeD k g2;exact⟨⟨x,_,rfl,g1,q1⟩,q2⟩
theorem GK (k:Nat):lsI (insL k):=λh q=>(IsL.takeD k h).1.app ⟨_,_,rfl,q,(IsL.takeD k h).2⟩
theorem Vals.ins (k:Nat) (r:Vals xs us) (ru:RelV y u):Vals (insL k xs y) (insL k us u):=(r.take k).append (.cons ru (r.drop k))
noncomputable def AW:V->List V->Hp->VK->Prop:=λx vs H Q=>∃ (l:Addr) (xs:List V) (i:Int) (k:Nat) (y:V),x=.ref l/\vs=[.int i,y]/\i=(k:Int)/\H l=some (.lst xs)/\k<=xs.length/\xs.length<sizeLine/\Q .non (upd H l (.lst (insL k xs y)))
theorem AX (its:List Value) (x:Int) (k:Nat) (u:Value) (hx:x=(k:Int)) (hk:k<=its.length):(its.toArray.extract 0 (if x<0 then(x+((its.toArray.size:Nat):Int)).toNat else min x.toNat its.toArray.size)).push u++its.toArray.extract (if x<0 then(x+((its.toArray.size:Nat):Int)).toNat else min x.toNat its.toArray.size)=(insL k its u).toArray:=by
 have h0:¬ (x<0):=by omega
 have h1:x.toNat=k:=by omega
 rw[if_neg h0,size_toArray,h1,Nat.min_eq_left hk];apply Array.ext';simp[insL];exact List.take_of_length_le (by rw[List.length_drop];exact le_refl _)
theorem vh:MtM X "list.insert" AW:=by
 intro pins s σ H x vs v us Q I rx rv h;obtain⟨l,xs,i,k,y,rfl,rfl,hi,hH,hk,hz,q⟩:=h;cases rx;cases rv with
 |cons r1 r2=>
 obtain⟨u,rfl,ru⟩:=(show Vals [y] _ from r2).one;obtain⟨t,rfl⟩:=r1;obtain⟨z,its,n,r,hl,e⟩:=I.lstM hH;have hf:Builtin.List.listFitsIndex i=true:=by
  have:sizeLine<2^63:=by decide
  unfold Builtin.List.listFitsIndex;simp only[and_eq_true,decide_eq_true_eq];omega
 refine call_meets F.slot_list_insert ⟨_,e,rfl⟩ F.entry_list_insert (F.args_list_insert_3 _ _ _) (AutoSeq1.list_insert_list_int_val_1 l its.toArray n i t u (by simp[hf]) (by rw[size_toArray];omega)) ⟨e,?_⟩;refine⟨.non,_,I.lset (its':=insL k its u) hH e ?_ (r.ins k ru) ?_,rfl,q⟩
 ·exact AX its i k u hi (by omega)
 ·unfold insL;rw[length_append,length_cons,List.length_take,List.length_drop];omega
section
variable {X:Cx} {e:Expr} {pos:Pos}
noncomputable def rP (n:Nat) (d:D):Option Nat:=match d with
 |.int i=>if 0<=i/\i<=(n:Int)then some i.toNat else none
 |_=>none
theorem iU (h:rP n d=some k):d=.int (k:Int)/\k<=n:=by
 unfold rP at h;split at h
 ·split at h
  ·cases h;rename_i i c;exact⟨by rw[Int.toNat_of_nonneg c.1],by omega⟩
  ·cases h
 ·cases h
noncomputable def xH (i:Nat) (fk R:Vv->Option D):Ev->Option Out:=λY=>(eE Y i).bind λw=>(fk (shv Y)).bind λy=>(rP w.2.length y).bind λk=>(lfO (R (shv Y))).bind λd=>
 if w.2.length+1<big then some (.nx (Y.set i (some (newCat w.1 (.deep,d),.lst (insL k w.2 d)))))else none
theorem vi (i:Nat) (hk:PP X ek fk) (h:PP X e R) (hN:X.N[i]?=some x) (hv:Vis X.env.scope x) (hd:(x==("__debug__":Str))=false) (hcd:(x==("__classdict__":Str))=false) (hst:starEach [ek,e] X.env=(false,eval ek X.env)::starEach [e] X.env) (hst2:starEach [e] X.env=(false,eval e X.env)::starEach [] X.env) (hline:(apos.endLine==cpos.line)=true):
  PR X (.Expr (.Call (.Attribute (.Name x px) "insert" apos) [ek,e] [] cpos) pos) (xH i fk R):=λB O Y=>
 (c7 (gP PySem.F.plainAttrs_list PySem.F.slot_list_insert PySem.F.type_list_insert vh (bO hN hv hd hcd) (bM (hk O (shv Y)) (bM (h O (shv Y)) pa_nil hst2) hst) rfl (by rw[hst,hst2];rfl) hline hst (by rw[hst2];rfl))).imp λEn σ H ⟨E,o,q,k⟩=>by
 obtain⟨⟨c,ds⟩,q1,q⟩:=bind_some q
 obtain⟨y,q2,q⟩:=bind_some q
 obtain⟨j,q3,q⟩:=bind_some q
 obtain⟨d,q4,q⟩:=bind_some q
 obtain⟨hz,q⟩:=ay q
 subst q
 obtain⟨h0,hc0⟩:=bz q1
 obtain⟨d',p5,p6⟩:=bind_some q4
 obtain⟨lf,p7⟩:=ay p6
 subst p7
 obtain⟨ey,hj⟩:=iU q3
 subst ey
 obtain⟨a,xs0,e1,r3,_⟩:=E.ownAt h0 hc0
 refine⟨.ref a,e1,.inl ⟨rfl,_,SqL.of r3⟩,E.viewS,_,q2,λyv H1 s1 iy=>?_⟩
 cases(show yv=.int (j:Int)from iy)
 have E1:=E.grow s1
 refine⟨E1.viewS,d',p5,λv H2 s2 iv=>?_⟩
 have E2:=E1.grow s2
 have E3:=E2.moreS iv
 have ex:extS d'=(.deep,d'):=by unfold extS;rw[if_pos lf]
 rw[ex]at E3
 obtain⟨a',xs,e2,r4,hl,O2,E4,s4⟩:=E3.change (insL j) (GJ j) (GK j) h0 hc0
 rw[e1]at e2
 cases e2
 exact⟨a,xs,_,j,v,rfl,rfl,rfl,r4,by rw[<-hl];exact hj,by rw[dW,<-hl];exact Nat.lt_of_succ_lt hz,k σ _ O2 (s1.msk.trans (s2.msk.trans s4)) E4⟩
end
def DZ {α:Type} (l:List α) (_:α):List α:=l.reverse
theorem DeepL.rev {K}:∀ {ds:List D} {xs:List V} {A:List Addr},DeepL K M H ds xs A->∃A',DeepL K M H ds.reverse xs.reverse A'/\A'.Perm A
 |[],xs,A,h=>by obtain⟨rfl,rfl⟩:=h;exact⟨[],⟨rfl,rfl⟩,.refl _⟩
 |d::ds,xs,A,⟨x,r,A1,A2,e1,e2,g1,g2⟩=>by
  subst e1 e2;obtain⟨A',q,p⟩:=DeepL.rev g2;refine⟨A'++A1,?_,(p.append_right _).trans List.perm_append_comm⟩;rw[List.reverse_cons,List.reverse_cons];exact DeepL.snoc g1 q
theorem GL:lsW DZ:=λh q nd=>by
 obtain⟨A',l,p⟩:=DeepL.rev h;exact⟨A',l,p.nodup_iff.mpr (List.nodup_append.mp nd).1,λb hb=>.inl (p.mem_iff.mp hb)⟩
theorem IsL.revD {K}:∀ {ds:List D} {xs:List V},IsL K M ds xs->IsL K M ds.reverse xs.reverse
 |[],xs,h=>by cases(show xs=[]from h);exact rfl
 |d::ds,xs,⟨x,r,e,g1,g2⟩=>by
  subst e;rw[List.reverse_cons,List.reverse_cons];exact(IsL.revD g2).app ⟨_,[],rfl,g1,rfl⟩
theorem GM:lsI DZ:=λh _=>IsL.revD h
section
variable {X:Cx} {e:Expr} {pos:Pos}
noncomputable def vj (i:Nat):Ev->Option Out:=λY=>(eE Y i).bind λw=>some (.nx (Y.set i (some (newCat w.1 (.deep,.non),.lst w.2.reverse))))
theorem rQ (i:Nat) (hN:X.N[i]?=some x) (hv:Vis X.env.scope x) (hd:(x==("__debug__":Str))=false) (hcd:(x==("__classdict__":Str))=false) (hline:(apos.endLine==cpos.line)=true):PR X (.Expr (.Call (.Attribute (.Name x px) "reverse" apos) [] [] cpos) pos) (vj i):=λB O Y=>
 (c7 (C1 PySem.F.plainAttrs_list PySem.F.slot_list_reverse PySem.F.type_list_reverse qU (bO hN hv hd hcd) rfl hline)).imp λEn σ H ⟨E,o,q,k⟩=>by
 obtain⟨⟨c,ds⟩,q1,q⟩:=bind_some q;cases q;obtain⟨h0,hc0⟩:=bz q1;have E3:=E.moreS (d:=.non) (v:=.non) rfl;have ex:extS .non=(.deep,.non):=rfl;rw[ex]at E3;obtain⟨a,xs,e1,r4,hl,O2,E4,s4⟩:=E3.change DZ GL GM h0 hc0;exact⟨.ref a,e1,.inl ⟨rfl,_,SqL.of r4⟩,a,xs,rfl,rfl,r4,k σ _ O2 s4 E4⟩
end
def rR (k:Nat) {α:Type} (l:List α) (_:α):List α:=l.eraseIdx k
theorem DeepL.del {K}:∀ {ds:List D} {xs:List V} {A:List Addr} (k:Nat),DeepL K M H ds xs A->∃A',A'.Sublist A/\DeepL K M H (ds.eraseIdx k) (xs.eraseIdx k) A'
 |[],xs,A,k,h=>by obtain⟨rfl,rfl⟩:=h;exact⟨[],List.Sublist.refl _,⟨rfl,rfl⟩⟩
 |d::ds,xs,A,0,⟨x,r,A1,A2,e1,e2,g1,g2⟩=>by
  subst e1 e2;exact⟨A2,List.sublist_append_right _ _,g2⟩
 |d::ds,xs,A,k+1,⟨x,r,A1,A2,e1,e2,g1,g2⟩=>by
  subst e1 e2;obtain⟨B,s,q⟩:=DeepL.del k g2;exact⟨A1++B,List.Sublist.append_left s _,⟨x,_,A1,B,rfl,rfl,g1,q⟩⟩
theorem IsL.del {K}:∀ {ds:List D} {xs:List V} (k:Nat),IsL K M ds xs->IsL K M (ds.eraseIdx k) (xs.eraseIdx k)
 |[],xs,k,h=>by cases(show xs=[]from h);exact rfl
 |d::ds,xs,0,⟨x,r,e,g1,g2⟩=>by subst e;exact g2
 |d::ds,xs,k+1,⟨x,r,e,g1,g2⟩=>by subst e;exact⟨x,_,rfl,g1,IsL.del k g2⟩
theorem Ce (k:Nat):lsW (rR k):=λ{K M H ds xs A A1 d v} h q nd=>by
 obtain⟨A',s,q1⟩:=DeepL.del k h;exact⟨A',q1,(List.nodup_append.mp nd).1.sublist s,λb hb=>.inl (s.subset hb)⟩
theorem Cf (k:Nat):lsI (rR k):=λh _=>IsL.del k h
section
variable {X:Cx} {e:Expr} {pos:Pos}
noncomputable def xI (i:Nat) (R:Vv->Option D):Ev->Option Out:=λY=>(eE Y i).bind λw=>(R (shv Y)).bind λy=>(rP w.2.length y).bind λk=>
 if k<w.2.length/\w.2.length<big then some (.nx (Y.set i (some (newCat w.1 (.deep,y),.lst (w.2.eraseIdx k)))))else none
theorem D0 (i:Nat) (h:PP X e R) (hN:X.N[i]?=some x) (hv:Vis X.env.scope x) (hd:(x==("__debug__":Str))=false) (hcd:(x==("__classdict__":Str))=false) (hst:starEach [e] X.env=(false,eval e X.env)::starEach [] X.env) (hline:(apos.endLine==cpos.line)=true):
  PR X (.Expr (.Call (.Attribute (.Name x px) "pop" apos) [e] [] cpos) pos) (xI i R):=λB O Y=>
 (c7 (gP PySem.F.plainAttrs_list PySem.F.slot_list_pop PySem.F.type_list_pop pz (bO hN hv hd hcd) (bM (h O (shv Y)) pa_nil hst) rfl (by rw[hst];rfl) hline hst rfl)).imp λEn σ H ⟨E,o,q,k⟩=>by
 obtain⟨⟨c,ds⟩,q1,q⟩:=bind_some q
 obtain⟨y,q2,q⟩:=bind_some q
 obtain⟨j,q3,q⟩:=bind_some q
 obtain⟨hz,q⟩:=ay q
 subst q
 obtain⟨h0,hc0⟩:=bz q1
 obtain⟨ey,hj⟩:=iU q3
 subst ey
 obtain⟨a,xs0,e1,r3,_⟩:=E.ownAt h0 hc0
 refine⟨.ref a,e1,.inl ⟨rfl,_,SqL.of r3⟩,E.viewS,_,q2,λyv H1 s1 iy=>?_⟩
 cases(show yv=.int (j:Int)from iy)
 have E1:=E.grow s1
 have E3:=E1.moreS (d:=.int (j:Int)) (v:=.int (j:Int)) rfl
 have ex:extS (.int (j:Int))=(.deep,.int (j:Int)):=rfl
 rw[ex]at E3
 obtain⟨a',xs,e2,r4,hl,O2,E4,s4⟩:=E3.change (rR j) (Ce j) (Cf j) h0 hc0
 rw[e1]at e2
 cases e2
 have hb:big<2^63:=by rw[<-dW];decide
 have hz1:j<xs.length:=by rw[<-hl];exact hz.1
 have hz2:xs.length<big:=by rw[<-hl];exact hz.2
 generalize big=bg at hb hz2
 exact⟨a,xs,_,j,xs[j],rfl,rfl,r4,by omega,by omega,PySem.StrLaws.seqIndex_nonneg (by omega) (by omega),getElem?_eq_getElem hz1,k σ _ O2 (s1.msk.trans s4) E4⟩
end
section
variable {K:Frag} {B:Bs} {O:Addr->Bool} {σ:St} {H:Hp} {Y:Ev}
end
section
variable {X:Cx} {e:Expr} {pos:Pos}
theorem lz (h:f8 Y i=some ds):Y[i]?=some (some (.deep,.lst ds)):=by
 obtain⟨⟨c,ds'⟩,p1,p2⟩:=bind_some h;obtain⟨p3,p4⟩:=ay p2;have p3:c=.deep:=p3;have p4:ds'=ds:=p4;subst p3 p4;exact(bz p1).1
end
section
variable {X:Cx} {e:Expr} {pos:Pos}
noncomputable def gpF (i j:Nat) (R:Vv->Option D):Ev->Option Out:=λY=>(f8 Y i).bind λds=>(f8 Y j).bind λes=>(R (vw Y)).bind λy=>(rP es.length y).bind λk=>(es[k]?).bind λd=>
 if i≠j/\lfD d=true/\es.length<big/\ds.length+1<big then some (.nx ((Y.set j (some (.deep,.lst (es.eraseIdx k)))).set i (some (.deep,.lst (ds++[d])))))else none
theorem GN (i j:Nat) (h:PP X e R) (hN:X.N[i]?=some x) (hv:Vis X.env.scope x) (hd:(x==("__debug__":Str))=false) (hcd:(x==("__classdict__":Str))=false) (hN2:X.N[j]?=some y) (hv2:Vis X.env.scope y) (hd2:(y==("__debug__":Str))=false) (hcd2:(y==("__classdict__":Str))=false) (hst:starEach [e] X.env=(false,eval e X.env)::starEach [] X.env) (hline:(apos.endLine==cpos.line)=true) (hline2:(apos2.endLine==cpos2.line)=true):
  PR X (.Expr (.Call (.Attribute (.Name x px) "append" apos) [.Call (.Attribute (.Name y py) "pop" apos2) [e] [] cpos2] [] cpos) pos) (gpF i j R):=λB O Y=>
 (c7 (gP PySem.F.plainAttrs_list PySem.F.slot_list_append PySem.F.type_list_append iH (bO hN hv hd hcd)
  (bM (gP PySem.F.plainAttrs_list PySem.F.slot_list_pop PySem.F.type_list_pop pz (bO hN2 hv2 hd2 hcd2) (bM (h noO (vw Y)) pa_nil hst) rfl (by rw[hst];rfl) hline2 hst rfl) pa_nil rfl) rfl rfl hline rfl rfl)).imp λEn σ H ⟨E,o,q,k⟩=>by
 obtain⟨ds,q1,q⟩:=bind_some q
 obtain⟨es,q3,q⟩:=bind_some q
 obtain⟨yd,q4,q⟩:=bind_some q
 obtain⟨n,q5,q⟩:=bind_some q
 obtain⟨d,q6,q⟩:=bind_some q
 obtain⟨⟨nij,ld,hz1,hz2⟩,q⟩:=ay q
 subst q
 have h0:=lz q1
 have h00:=lz q3
 obtain⟨ey,hn⟩:=iU q5
 subst ey
 have hne:j≠i:=λz=>nij z.symm
 obtain⟨a,xs0,g1,g2,_⟩:=E.ownAt h0 (by decide)
 refine⟨.ref a,g1,.inl ⟨rfl,_,SqL.of g2⟩,?_⟩
 obtain⟨l,zs,e1,e2,hl,ol,bl⟩:=E.ownAt h00 (by decide)
 refine⟨.ref l,e1,.inl ⟨rfl,_,SqL.of e2⟩,E.view,_,q4,λyv3 H3 s3 iy3=>?_⟩
 cases(show yv3=.int (n:Int)from iy3)
 have E3:=E.grow s3
 have E4:=E3.moreS (d:=.int (n:Int)) (v:=.int (n:Int)) rfl
 have ex:extS (.int (n:Int))=(.deep,.int (n:Int)):=rfl
 rw[ex]at E4
 obtain⟨l',zs',f1,f2,f3,O5,E5,s5⟩:=E4.change (rR n) (Ce n) (Cf n) h00 (by decide)
 rw[e1]at f1
 cases f1
 have hb:big<2^63:=by rw[<-dW];decide
 have hn1:n<zs'.length:=by rw[<-f3];exact(List.getElem?_eq_some_iff.mp q6).1
 have hn2:zs'.length<big:=by rw[<-f3];exact hz1
 have iv:Is X.K H3 d zs'[n]:=by
  obtain⟨F,h1,_⟩:=E3.fp;obtain⟨w,w1,a',xs',A',z1,z2,z3,lD⟩:=h1 j _ h00;rw[e1]at w1;cases w1;cases z1;rw[f2]at z2;cases z2;obtain⟨x',x1,x2⟩:=(DeepL.is (M':=H3) (NL.of msk_le) es zs' A' (λ_ _ _ h=>h) lD).get q6;rw[getElem?_eq_getElem hn1]at x1;cases x1;exact x2
 have nc:newCat Cat.deep (Cat.deep,D.int (n:Int))=.deep:=rfl
 rw[nc]at E5
 have hi5:(Y.set j (some (Cat.deep,D.lst (rR n es (.int (n:Int))))))[i]?=some (some (.deep,.lst ds)):=by rw[List.getElem?_set_ne hne];exact h0
 have iv5:Is X.K (msk O5 (upd H3 l (.lst (rR n zs' (.int (n:Int)))))) d zs'[n]:=by
  refine Is.nl (NL.trans (λc o hc hh=>?_) E5.nl) d _ ld iv;have:c≠l:=λz=>by
   subst z;rw[f2]at hc;cases hc;exact hh (.inl ⟨_,rfl⟩)
  rw[ag this];exact hc
 have E6:=E5.moreS iv5
 have ex6:extS d=(.deep,d):=if_pos ld
 rw[ex6]at E6
 have hil:i<(Y.set j (some (Cat.deep,D.lst (rR n es (.int (n:Int)))))).length:=(List.getElem?_eq_some_iff.mp hi5).1
 obtain⟨a',xs',k1,k2,k3,O7,E7,s7⟩:=E6.change fm rz rA hi5 (by decide)
 rw[g1]at k1
 cases k1
 refine⟨l,zs',_,n,zs'[n],rfl,rfl,f2,by omega,by omega,PySem.StrLaws.seqIndex_nonneg (by omega) (by omega),getElem?_eq_getElem hn1,?_⟩
 exact⟨a,xs',zs'[n],rfl,rfl,k2,by rw[dW,<-k3];exact Nat.lt_of_succ_lt hz2,k σ _ O7 (s3.msk.trans (s5.trans s7)) E7⟩
end
noncomputable def whF (c:Vv->Option Bool) (F:Ev->Option Out):Nat->Ev->Option Out
 |0,_=>none
 |n+1,Y=>(c (vw Y)).bind λb=>if b=true then(F Y).bind λo=>match o with
  |.nx Y'=>whF c F n Y'
  |.ct Y'=>whF c F n Y'
  |.bk Y'=>some (.nx Y')
  |.rt s=>some (.rt s)else some (.nx Y)
def wlF (c:Vv->Option Bool) (F:Ev->Option Out):Ev->Option Out:=whF c F 400
section
variable {X:Cx} {pos:Pos}
theorem PT.ex {ι:Type} {t:ι->TT} (h:∀z,PT X c (t z)):PT X c (λσ H Q=>∃z,t z σ H Q):=λpins s σ H D I ⟨z,q⟩=>h z pins s σ H D I q
theorem xJ (hp:PassesOwn (model X.prog X.w) X.A X.env X.xe) (hc:PQ X c fc) (hb:PRs X body F):PR X (.While c body [] pos) (wlF fc F):=λB O Y=>
 (vS hp (PT.ex λz:Vv=>hc noO z) (PSs.ex λz:(Addr->Bool)×Ev=>hb B z.1 z.2)).imp λEn σ H ⟨E,o,q,k⟩=>by
 refine⟨λm σ' H'=>∃O' Y',whF fc F m Y'=some o/\EnvOk X.K B O' σ' H' Y'/\Same (msk O H) (msk O' H'),⟨400,O,Y,q,E,Same.refl _⟩,?_⟩;rintro m σ1 H1 ⟨O1,Y1,q1,E1,s1⟩;cases m with
 |zero=>cases q1
 |succ n=>
  obtain⟨b,q2,q3⟩:=bind_some (show((fc (vw Y1)).bind λb=>if b=true then(F Y1).bind λo=>match o with
   |.nx Y'=>whF fc F n Y'
   |.ct Y'=>whF fc F n Y'
   |.bk Y'=>some (.nx Y')
   |.rt s=>some (.rt s)else some (.nx Y1))=some o from q1)
  refine⟨vw Y1,E1.view,b,q2,λH2 s2=>?_⟩;cases b with
  |false=>
   rw[if_neg Bool.false_ne_true]at q3;cases q3;rw[if_neg Bool.false_ne_true];exact k σ1 H2 O1 (s1.trans s2.msk) (E1.grow s2)
  |true=>
   rw[if_pos rfl]at q3;rw[if_pos rfl];obtain⟨o1,q4,q5⟩:=bind_some q3;refine⟨λσ' H'=>∃O' Y',whF fc F n Y'=some o/\EnvOk X.K B O' σ' H' Y'/\Same (msk O H) (msk O' H'),λσ' H' h=>⟨n,Nat.lt_succ_self n,h⟩,(O1,Y1),E1.grow s2,o1,q4,?_⟩;have s3:=s1.trans s2.msk;cases o1 with
   |nx Y2=>exactλσ' H' O' s' E'=>⟨O',Y2,q5,E',s3.trans s'⟩
   |ct Y2=>exactλσ' H' O' s' E'=>⟨O',Y2,q5,E',s3.trans s'⟩
   |bk Y2=>
    cases q5;exactλσ' H' O' s' E'=>k σ' H' O' (s3.trans s') E'
   |rt s=>
    cases q5;exactλv H' r=>k v H' r
end
def Stl (M M1:Hp):Prop:=∀b u,M b=some u->M1 b=some u\/∃o kvs,u=.dK kvs/\M1 b=some (.frz o u)
theorem Stl.rd (s:Stl M M1) (h:Rd M a u):Rd M1 a u:=by
 rcases h with h|⟨o,h⟩
 ·rcases s _ _ h with h|⟨o,_,_,h⟩
  ·exact .inl h
  ·exact .inr ⟨o,h⟩
 ·rcases s _ _ h with h|⟨_,_,z,_⟩
  ·exact .inr ⟨o,h⟩
  ·cases z
theorem Stl.sq {K} (s:Stl M M1) (h:SqL K M a xs):SqL K M1 a xs:=h.imp s.rd id
theorem Stl.sqT {K} (s:Stl M M1) (h:SqT K M a xs):SqT K M1 a xs:=h.imp s.rd id
mutual
theorem Is.stl {K:Frag} {H H':Hp} (s:Stl H H'):∀ (d:D) (v:V),Is K H d v->Is K H' d v
 |.non,_,h=>h
 |.bl _,_,h=>h
 |.int _,_,h=>h
 |.str _,_,h=>h
 |.ty _,_,h=>h
 |.adr _,_,h=>h
 |.tup ds,_,⟨a,xs,e,q,l⟩=>⟨a,xs,e,s.sqT q,IsL.stl s ds xs l⟩
 |.lst ds,_,⟨a,xs,e,q,l⟩=>⟨a,xs,e,s.sq q,IsL.stl s ds xs l⟩
 |.obj _ _ ds,_,⟨a,Ca,dx,fs,e,c,q,z,l⟩=>⟨a,Ca,dx,fs,e,c,(s _ _ q).elim id (λ⟨_,_,z,_⟩=>nomatch z),z,IsL.stl s ds _ l⟩
 |.dct _ ds,_,⟨a,kvs,e,q,z,l⟩=>⟨a,kvs,e,s.rd q,z,IsL.stl s ds _ l⟩
theorem IsL.stl {K:Frag} {H H':Hp} (s:Stl H H'):∀ (ds:List D) (xs:List V),IsL K H ds xs->IsL K H' ds xs
 |[],_,h=>h
 |d::ds,_,⟨x,r,e,h,l⟩=>⟨x,r,e,Is.stl s d x h,IsL.stl s ds r l⟩
end
theorem AY (o:Obj) (e:H a=some (.dK kvs)):Stl H (upd H a (.frz o (.dK kvs))):=λb u h=>by
 by_cases hb:b=a
 ·subst hb;rw[e]at h;cases h;exact .inr ⟨o,kvs,rfl,ah⟩
 ·exact .inl (by rw[ag hb];exact h)
theorem AZ (s:Stl H H1):Stl (msk O H) (msk O H1):=λb u h=>by
 obtain⟨o1,h⟩:=aF h;rw[aG o1];exact s b u h
section
variable {X:Cx} {pins:List (Addr×Obj)} {σ:St} {H:Hp} {s:Shared} {a:Addr} {u w:HO} {kvs:List (Key×V)}
def DkO (kvs:List (Key×V)) (u:HO):Prop:=u=.dK kvs\/∃o,u=.frz o (.dK kvs)
def GO (H₀:Hp) (a:Addr):Prop:=∀o,H₀ a=some o->(∀b u,o≠.frz b u)/\(∀xs,o≠.tup xs)/\∀ps,o≠.tbl ps
theorem Inv.noSt (I:Inv X pins σ H s) (e:H a=some (.dK kvs)):GO X.H₀ a:=λo h=>by
 refine⟨λb u z=>?_,λxs z=>?_,λps z=>?_⟩
 ·subst z;rw[I.base.frzs a b u h]at e;cases e
 ·subst z;rw[I.base.tups a xs h]at e;cases e
 ·subst z;obtain⟨m,q⟩:=I.base.tbls a ps h;rw[q]at e;cases e
theorem Inv.reset (I:Inv X pins σ H s) (e:H a=some u) (hu:DkO kvs u) (h0:GO X.H₀ a) (new:ObjOk X.prog X.w (upd H a w) s.heap a w):Inv X pins σ (upd H a w) s:=by
 have ne:∀b,H b=none->b≠a:=λb h z=>by subst z;rw[e]at h;cases h
 have n1:∀b xs,H b=some (.tup xs)->b≠a:=λb xs h z=>by
  subst z;rw[e]at h;cases h;rcases hu with z|⟨_,z⟩<;>cases z
 have n2:∀b y,H b=some (.own y)->b≠a:=λb y h z=>by
  subst z;rw[e]at h;cases h;rcases hu with z|⟨_,z⟩<;>cases z
 refine⟨I.ok,I.os,I.bare,⟨I.base.keep,I.base.slot,λb o q n x=>?_,I.base.there,λb xs q=>?_,λb o st q=>?_,λb ps q=>?_⟩,I.loc,I.cell,?_,λx c q=>?_,λp hp=>?_,λb o q=>?_,I.len⟩
 ·have:=I.base.free b o q n x;rw[ag (ne b this)];exact this
 ·by_cases z:b=a
  ·subst z;exact absurd rfl ((h0 _ q).2.1 xs)
  ·rw[ag z];exact I.base.tups b xs q
 ·by_cases z:b=a
  ·subst z;exact absurd rfl ((h0 _ q).1 o st)
  ·rw[ag z];exact I.base.frzs b o st q
 ·by_cases z:b=a
  ·subst z;exact absurd rfl ((h0 _ q).2.2 ps)
  ·rw[ag z];exact I.base.tbls b ps q
 ·rw[ag (ne _ I.free)];exact I.free
 ·rw[ag (ne _ (I.freeC x c q))];exact I.freeC x c q
 ·obtain⟨p1,p2,p3⟩:=I.pin p hp;exact⟨p1,by rw[ag (ne _ p2)];exact p2,p3⟩
 ·by_cases z:b=a
  ·subst z;rw[ah]at q;cases q;exact new
  ·rw[ag z]at q;refine(I.hok b o q).stay (λ_ _ _ r=>r) (λc r=>?_) (λc xs r=>?_)
   ·rw[ag (n2 c b r)];exact r
   ·rw[ag (n1 c xs r)];exact r
end
def vk:Key->D
 |.inl n=>.int n
 |.inr x=>.str x
theorem D1 {K} (k:Key):Is K M (vk k) (kV k):=by cases k<;>rfl
noncomputable def Itk (a:Addr) (o:Obj) (kvs:List (Key×V)):It:=
 ⟨λi H=>H a=some (.frz o (.dK kvs))/\i<kvs.length,λi H x H'=>H'=H/\∃p,kvs[i]?=some p/\x=kV p.1,λi H=>H a=some (.frz o (.dK kvs))/\kvs.length<=i⟩
theorem Cg (ok:HOk P w H h) (e:H a=some (.frz o (.dK kvs))) (hd:o.data=.dict es ep):∃vs,KV kvs vs/\h.DictAt (aS P w) a vs ep:=by
 obtain⟨e1,_,_,vs,rel,o',es',ep',e2,x1,x2,x3⟩:=ok a _ e;rw[e1]at e2;cases e2;rw[hd]at x2;cases x2;exact⟨vs,rel,o,es,e1,x1,hd,x3⟩
theorem KV.at (r:KV kvs vs):∀ {i:Nat} {p:Key×V},kvs[i]?=some p->∃u,vs[i]?=some (p.1,u):=by
 induction r with
 |nil=>intro i p h;cases i<;>cases h
 |@cons a b _ _ h _ ih=>
  intro i p q;cases i with
  |zero=>cases q;exact⟨b.2,by show some b=some (a.1,b.2);rw[h.1]⟩
  |succ i=>exact ih q
theorem A0 (h:(aS P w).is k v=true):RelV (kV k) v:=by
 rcases keyIs_shape (show keyIs k v=true from h)with⟨i,t,rfl,rfl⟩|⟨x,t,rfl,rfl⟩
 ·exact⟨t,rfl⟩
 ·exact⟨t,rfl⟩
theorem A3 {P:Program} {w:World} {K:Frag} {tg:Expr} (a it:Addr) {o:Obj} {kvs:List (Key×V)} {es:Array DictEntry} {ep:Nat} (hd:o.data=.dict es ep):Turn P w K tg (Itk a o kvs) [it] it (λi h=>h.IsKeyIter it a i kvs.length ep) where
 mem:=by simp
 obj:=λi h st b hb=>by
  have e:b=it:=by simpa using hb
  subst e;obtain⟨o,e,c,d⟩:=st;exact⟨o,e,λv z=>by rw[d]at z;cases z⟩
 keep:=λi h h' st k=>by
  obtain⟨o,e,r⟩:=st;exact⟨o,k it (by simp) o e,r⟩
 item:=by
  intro X hP hw hK hc i pins s σ H E I hf st hg;subst hP hw hK;obtain⟨hg,hi⟩:=hg;obtain⟨vs,rel,da⟩:=Cg I.hok hg hd;obtain⟨u,hu⟩:=rel.at (getElem?_eq_getElem hi);obtain⟨f0,f1,f2,f3,f4,f5⟩:=hf it (by simp);rw[rel.length]at st;refine wpAny_pyNext_dict_item st da hu λkey h' hk st' sb=>?_;have I1:Inv X pins σ H {s with heap:=h'}:=I.turned (t':=s.toks) (λb o hb e=>(sb.2 b hb).trans e) f0 f1 f3 f4 f5;obtain⟨o2,e,c,d⟩:=id st';exact⟨key,rfl,sT (s:={s with heap:=h'}) e c d (by decide) ⟨_,H,I1,A0 hk,⟨rfl,_,getElem?_eq_getElem hi,rfl⟩,by rw[rel.length];exact st',λb hb=>(hf b hb).1⟩⟩
 done:=by
  intro X hP hw hK hc i pins s σ H E I hf st hg;subst hP hw hK;obtain⟨hg,hi⟩:=hg;obtain⟨vs,rel,da⟩:=Cg I.hok hg hd;obtain⟨f0,f1,f2,f3,f4,f5⟩:=hf it (by simp);have hl:=rel.length;rw[hl]at st;exact wpAny_pyNext_dict_end (I.ok.hd hc) st da (List.getElem?_eq_none (by omega)) λh' eb=>⟨rfl,I.turned (t':=s.toks) (λb o hb e=>eb b o hb e) f0 f1 f3 f4 f5⟩
 self:=λA i s Q E st h=>wpAny_pyIter_keyiter st h
theorem A4 {K} (h:Hm a=some (.frz o (.dK kvs))):ng K Hm (Itk a o kvs) ((kvs.map (·.1)).map vk):=λi H O s hd=>by
 have h':H a=some (.frz o (.dK kvs)):=(aF (s _ _ h)).2;refine⟨λd hi=>?_,λhi=>⟨h',by rw[length_map,length_map]at hi;exact hi⟩⟩;rw[List.map_map,getElem?_map]at hi;cases e:kvs[i]? with
 |none=>rw[e]at hi;cases hi
 |some p=>
  rw[e]at hi;cases hi;refine⟨⟨h',(List.getElem?_eq_some_iff.mp e).1⟩,λy H3 ⟨z,q,hq,hy⟩=>?_⟩;subst z hy;rw[e]at hq;cases hq;exact⟨Same.refl _,D1 _⟩
noncomputable def iDk (i:Nat):TI:=λσ H R=>∃a kvs,σ[i]?=some (some (.ref a))/\Rd H a (.dK kvs)/\∀o H1,(H a=some (.dK kvs)/\H1=upd H a (.frz o (.dK kvs)))\/(H a=some (.frz o (.dK kvs))/\H1=H)->R (Itk a o kvs) H1
section
variable {X:Cx} {tg:Expr} {i:Nat} {x:Str} {px pos:Pos}
theorem GP (hN:X.N[i]?=some x) (hv:Vis X.env.scope x) (hd:(x==("__debug__":Str))=false) (hcd:(x==("__classdict__":Str))=false):PI X tg (.Name x px) (iDk i):=by
 intro pins s σ H R I ⟨a,kvs,hσ,hR,q⟩;refine thn (bO hN hv hd hcd pins s σ H (λv H1=>v=.ref a/\H1=H) I ⟨_,hσ,rfl,rfl⟩) λv s1 ⟨x1,H1,I1,r1,e1,e2⟩=>?_;subst e1 e2;cases r1;obtain⟨z,hsm,vs,rel,o,es,ep,e,x1,x2,x3⟩:=tf I1.hok hR;have key:∃H2,Inv X pins σ H2 s1/\H2 a=some (.frz o (.dK kvs))/\R (Itk a o kvs) H2:=by
  rcases hR with hR|⟨o',hR⟩
  ·exact⟨_,I1.reset hR (.inl rfl) (I1.noSt hR) (w:=.frz o (.dK kvs)) ⟨e,z,hsm,vs,rel,o,es,ep,e,x1,x2,x3⟩,ah,q o _ (.inl ⟨hR,rfl⟩)⟩
  ·have:=(I1.hok a _ hR).1;rw[e]at this;cases this;exact⟨_,I1,hR,q o _ (.inr ⟨hR,rfl⟩)⟩
 obtain⟨H2,I2,h2,q2⟩:=key;refine wpAny_pyIter_dict (knd:=aS X.prog X.w) hsm ⟨o,es,e,x1,x2,x3⟩ ?_;refine⟨s1.heap.objs.size,[s1.heap.objs.size],_,_,H2,rfl,I2.kept (t':=s1.toks) λb o e=>Heap.get?_push_of_some _ e,A3 a _ x2,⟨_,Heap.get?_push_size _ rfl,rfl,by rw[rel.length];rfl⟩,λb hb=>?_,q2⟩;have e:b=s1.heap.objs.size:=by simpa using hb
 subst e;exact I2.fpOk (le_refl _) (I2.hok.fresh (le_refl _))
end
section
variable {K:Frag} {B:Bs} {O:Addr->Bool} {σ:St} {H:Hp} {Y:Ev}
theorem EnvOk.still (E:EnvOk K B O σ H Y) (o:Obj) (e:H a=some (.dK kvs)) (oa:O a=false) (ba:B.H a=none):EnvOk K B O σ (upd H a (.frz o (.dK kvs))) Y:=by
 obtain⟨F,h1,h2,h3,h4⟩:=E.fp;have st:Stl (msk O H) (msk O (upd H a (.frz o (.dK kvs)))):=AZ (AY o e);refine⟨λb u q=>?_,E.bdom,E.sub,λb hb=>?_,E.len,F,λi s q=>?_,h2,h3,h4⟩
 ·rw[ag (ak q ba)];exact E.same b u q
 ·rw[ag (λz=>by subst z;rw[oa]at hb;cases hb)];exact E.lis b hb
 ·obtain⟨v,e1,o1⟩:=h1 i s q;have ne:∀b∈F i,b≠a:=λb hb z=>by subst z;rw[(h4 i b hb).1]at oa;cases oa
  refine⟨v,e1,?_⟩;obtain⟨c,d⟩:=s;cases c with
  |sh=>exact⟨o1.1,Is.stl st _ _ o1.2⟩
  |top=>
   obtain⟨p,ds,xs,z1,z2,z3,z4,l⟩:=o1;exact⟨p,ds,xs,z1,z2,z3,by rw[ag (ne p (by rw[z3];exact mem_cons_self))];exact z4,IsL.stl st _ _ l⟩
  |deep=>
   refine Deep.frame (λb u q nh=>?_) _ _ _ (λb hb u q=>by rw[ag (ne b hb)];exact q) o1;obtain⟨ob,q⟩:=aF q;rw[aG ob];by_cases z:b=a
   ·subst z;rw[e]at q;cases q;exact absurd (.inr (.inr ⟨_,rfl⟩)) nh
   ·rw[ag z];exact q
end
noncomputable def xK (i:Nat) (g:D->Ev->Option Ev) (F:Ev->Option Out):Ev->Option Out:=λY=>(jN Y i).bind λw=>hW (mq g F) (w.1.map vk) (frzS [i] Y)
theorem D2 {Y:Ev} {i:Nat} (h:Y[i]?=some (some (c,d))):(frzS [i] Y)[i]?=some (some (.sh,d)):=by
 show(frz1 i Y)[i]?=_;unfold frz1;rw[h];have:=(List.getElem?_eq_some_iff.mp h).1;exact List.getElem?_set_self this
section
variable {X:Cx} {tg:Expr} {i:Nat} {x:Str} {px pos:Pos}
theorem A5 (hp:PassesOwn (model X.prog X.w) X.A X.env X.xe) (hc:X.calm=true) (hN:X.N[i]?=some x) (hv:Vis X.env.scope x) (hd:(x==("__debug__":Str))=false) (hcd:(x==("__classdict__":Str))=false) (hg:PGE X tg g) (hb:PRs X body F) (hs:∀y,foldedSetIterable (.Name x px) X.env y=pure y):PR X (.For tg (.Name x px) body [] pos) (xK i g F):=λB O Y=>
 (qL hp hc (GP hN hv hd hcd) (PG.ex λz:(Addr->Bool)×Ev×D=>hg B z.1 z.2.1 z.2.2) (PSs.ex λz:(Addr->Bool)×Ev=>hb B z.1 z.2) hs).imp λEn σ H ⟨E,out,q,k⟩=>by
 obtain⟨⟨ks,ds⟩,q1,q⟩:=bind_some q;have h0:=iO q1;obtain⟨a,kvs,e1,e2,e3,oa,ba⟩:=E.dctAt h0;obtain⟨O',E',le⟩:=E.frzS [i];obtain⟨F',h1,_⟩:=E'.fp;obtain⟨v,z1,z2,a',kvs',z3,z4,_⟩:=h1 i _ (D2 h0);rw[e1]at z1;cases z1;cases z3;have oa':O' a=false:=by
  rcases z4 with z|⟨_,z⟩
  ·exact(aF z).1
  ·exact(aF z).1
 refine⟨a,kvs,e1,.inl e2,λo H1 hH=>?_⟩;rcases hH with⟨_,rfl⟩|⟨z,_⟩
 ·have E1:=E'.still o e2 oa' ba;have le1:Same (msk O H) (msk O' (upd H a (.frz o (.dK kvs)))):=λb u q=>by
   have nb:b≠a:=λz=>by subst z;rw[(aF q).1]at oa;cases oa
   obtain⟨ob,q⟩:=aF (le b u q);rw[aG ob,ag nb];exact q
  subst e3;obtain⟨_,ds',e',kk⟩:=n9 (o:=some ((kvs.map (·.1)).map vk)) (Yv:=shv (frzS [i] Y)) (g:=g) (F:=F) E1 E1.viewS (show((some ((kvs.map (·.1)).map vk)).bind λds=>hW (mq g F) ds (frzS [i] Y))=some out from q) (k.mono le1);cases e';exact kk _ _ (Same.refl _) (A4 (by rw[aG oa',ah]))
 ·rw[e2]at z;cases z
end
section
variable {K:Frag} {B:Bs} {O:Addr->Bool} {σ:St} {H:Hp} {Y:Ev} {i:Nat}
theorem EnvOk.move (E:EnvOk K B O σ H Y) {s:Sl} {v:V} (h:Y[i]?=some (some s)) (hv:σ[i]?=some (some v)):EnvOk K B O (σ++[some v]) H (Y.set i none++[some s]) where
 same:=E.same
 bdom:=E.bdom
 sub:=E.sub
 lis:=E.lis
 len:=by rw[length_append,length_append,List.length_set,E.len];rfl
 fp:=by
  obtain⟨F,h1,h2,h3,h4⟩:=E.fp;have hil:i<Y.length:=(List.getElem?_eq_some_iff.mp h).1;have key:∀k b,b∈(if k=Y.length then F i else if k=i then[]else F k)->(k=Y.length/\b∈F i)\/(k≠Y.length/\k≠i/\b∈F k):=λk b hb=>by
   by_cases e:k=Y.length
   ·rw[if_pos e]at hb;exact .inl ⟨e,hb⟩
   ·rw[if_neg e]at hb;by_cases e2:k=i
    ·rw[if_pos e2]at hb;cases hb
    ·rw[if_neg e2]at hb;exact .inr ⟨e,e2,hb⟩
  refine⟨λk=>if k=Y.length then F i else if k=i then[]else F k,λk x q=>?_,λk=>?_,λk l b hk hl=>?_,λk b hk=>?_⟩
  ·by_cases e:k=Y.length
   ·subst e;have hq:(Y.set i none++[some s])[Y.length]?=some (some s):=by
     have:=getElem?_last (Y.set i none) (some s);rwa [List.length_set]at this
    rw[hq]at q;cases q;obtain⟨v',e1,o1⟩:=h1 i s h;rw[hv]at e1;cases e1;refine⟨v,by rw[<-E.len];exact getElem?_last _ _,?_⟩;simp only[if_true];exact o1
   ·have q':=dq (by rw[List.length_set];exact e) q;rcases get_set_some q' with⟨_,z⟩|⟨ne,q2⟩
    ·cases z
    ·obtain⟨w,e1,o1⟩:=h1 k x q2;have hkl:k<σ.length:=(List.getElem?_eq_some_iff.mp e1).1;refine⟨w,by rw[getElem?_append_left hkl];exact e1,?_⟩;simp only[if_neg e,if_neg ne];exact o1
  ·dsimp only;split
   ·exact h2 _
   ·split
    ·exact List.nodup_nil
    ·exact h2 _
  ·rcases key k b hk with⟨a1,a2⟩|⟨a1,a2,a3⟩<;>rcases key l b hl with⟨b1,b2⟩|⟨b1,b2,b3⟩
   ·omega
   ·exact absurd (h3 _ _ b a2 b3) (by omega)
   ·exact absurd (h3 _ _ b a3 b2) (by omega)
   ·exact h3 _ _ b a3 b3
  ·rcases key k b hk with⟨a1,a2⟩|⟨a1,a2,a3⟩
   ·exact h4 _ b a2
   ·exact h4 _ b a3
end
def mvE (j:Nat):Ev->Option (Sl×Ev):=λY=>(jN Y j).bind λw=>some ((.deep,.dct w.1 w.2),Y.set j none)
section
variable {X:Cx} {i:Nat} {x:Str} {px pos:Pos}
theorem GQ (hN:X.N[i]?=some x) (hv:Vis X.env.scope x) (hd:(x==("__debug__":Str))=false) (hcd:(x==("__classdict__":Str))=false):PEv X (.Name x px) (mvE i):=λB O Y=>PE.pu ((bO hN hv hd hcd).imp λσ H Q ⟨E,s,Y',q,k⟩=>by
 obtain⟨⟨ks,ds⟩,q1,q⟩:=bind_some q;cases q;have h0:=iO q1;obtain⟨a,kvs,e1,_⟩:=E.dctAt h0;exact⟨.ref a,e1,k _ H O (Same.refl _) (E.move h0 e1)⟩) rfl
theorem A6:PFr X (.Dict [some (.Constant (.int n) j1 p1)] [.Constant (.bool b) j2 p2] pos) (λ_=>some (.dct [.inl n] [.bl b])):=λY=>PE.pu ((Ae (wu pe_int (pe_bl) Ad) rfl rfl (by simp) (show 1<=15 by decide)).imp λσ H Q ⟨E,d,q,k⟩=>by
 cases q;intro p hp;refine⟨ah,[(.inl n,.bl b)],rfl,(show 1<=15 by decide),?_⟩;refine k _ _ [p] (λc o h=>?_) ⟨p,[(.inl n,.bl b)],[],rfl,ah,rfl,rfl,.bl b,[],[],[],rfl,rfl,⟨rfl,rfl⟩,rfl,rfl⟩ (List.nodup_cons.mpr ⟨(λz=>nomatch z),List.nodup_nil⟩) λc hc=>by rw[mem_singleton.mp hc];exact hp
 have:c≠p:=ak h hp;rw[ag this,ag this];exact h) rfl
end
section
variable {X:Cx} {a b e tg:Expr} {pos:Pos}
end
section
variable {X:Cx} {a b:Expr} {pos:Pos}
def aC:D->D->Option D
 |.int i,.int j=>some (.int (i+j))
 |_,_=>none
theorem D3:aC=C8:=funext λx=>funext λy=>by cases x<;>cases y<;>rfl
theorem D4 {a b:Expr} {pos:Pos} {fa fb} (ha:PP X a fa) (hb:PP X b fb):PP X (.BinOp a .Add b pos) (aa aC fa fb):=D3▸Ai ha hb
def vm (k:Int) (ns:List Int):Option Nat:=ns.findIdx? λn=>n==k
noncomputable def Jl (K:Frag):V->List V->Hp->VK->Prop:=λx vs H Q=>∃ (l:Addr) (ns:List Int) (k:Int) (j:Nat),x=.ref l/\vs=[.int k]/\SqL K H l (ns.map V.int)/\vm k ns=some j/\Q (.int (j:Int)) H
theorem xL (h:vm k ns=some j):∃hj:j<ns.length,ns[j]=k/\∀i (hi:i<ns.length),i<j->ns[i]≠k:=by
 obtain⟨hj,h1,h2⟩:=List.findIdx?_eq_some_iff_getElem.mp h;exact⟨hj,by simpa using h1,λi hi hlt=>by have:=h2 i hlt;simpa using this⟩
theorem xM:MtM X "list.index" (Jl X.K):=by
 intro pins s σ H x vs v us Q I rx rv h;obtain⟨l,ns,k,j,rfl,rfl,hx,hj,q⟩:=h;cases rx;obtain⟨u,rfl,ru⟩:=rv.one;obtain⟨t,rfl⟩:=ru;obtain⟨its,r,⟨⟨c1,d1,t1,s1⟩,n1,e1,k1,_,w1⟩,hz⟩:=I.list hx;simp only at k1 w1;subst k1 w1;obtain⟨hjl,hit,hno⟩:=xL hj;have hl:=r.length;rw[length_map]at hl hz;have get:∀i (hi:i<its.length) (hi2:i<ns.length),isInt k its[i]=(ns[i]==k):=λi hi hi2=>by
  obtain⟨w,hw,rw'⟩:=r.get (show(ns.map V.int)[i]?=some (V.int ns[i])by rw[getElem?_map,getElem?_eq_getElem hi2];rfl);rw[getElem?_eq_getElem hi]at hw;cases hw;obtain⟨t',e⟩:=rw';rw[e];rfl
 have hs:(j:Int)<2^63-1:=by
  have:sizeLine<2^62:=by decide
  omega
 refine call_meets F.slot_list_index ⟨_,e1,rfl⟩ F.entry_list_index (F.args_list_index_2 _ _) (PySem.SeqAt.list_indexAt l its.toArray n1 d1 s1 (.int k t) (isInt k) j (by rw[size_toArray];omega) hs ?_ ?_) ⟨e1,λy hy=>?_,?_⟩
 ·have:=get j (by omega) hjl;simp only[List.getElem_toArray];rw[this,hit];simp
 ·intro m hm hlt;have hm':m<its.length:=by simpa using hm
  have:=get m hm' (by omega);simp only[List.getElem_toArray];rw[this];simpa using hno m (by omega) hlt
 ·have hy':y∈its:=by simpa using hy
  obtain⟨i,hi⟩:=List.mem_iff_getElem?.mp hy';have hil:i<its.length:=(List.getElem?_eq_some_iff.mp hi).1;obtain⟨w,hw,rw'⟩:=r.get (show(ns.map V.int)[i]?=some (V.int (ns[i]'(by omega)))by rw[getElem?_map,getElem?_eq_getElem (by omega)];rfl);rw[hi]at hw;cases hw;obtain⟨t',e⟩:=rw';subst e;exact PySem.SeqAt.EqAt.int_int _ t' k t
 ·exact⟨.int (j:Int),H,I.kept (t':=s.toks+1) λb o ho=>ho,⟨_,rfl⟩,q⟩
noncomputable def A7 (fo fk:Vv->Option D):Vv->Option D:=λY=>(fo Y).bind λl=>(eV l).bind λds=>(bU ds).bind λns=>(fk Y).bind λy=>(intD y).bind λk=>(vm k ns).bind λj=>some (.int (j:Int))
theorem xN (ho:PP X (.Name x px) fo) (hk:PP X e fk) (hst:starEach [e] X.env=(false,eval e X.env)::starEach [] X.env) (hl:(ap.endLine==cp.line)=true):
  PP X (.Call (.Attribute (.Name x px) "index" ap) [e] [] cp) (A7 fo fk):=λO Y=>
 (gP PySem.F.plainAttrs_list PySem.F.slot_list_index PySem.F.type_list_index xM (ho O Y) (bM (hk O Y) pa_nil hst) rfl (by rw[hst];rfl) hl hst rfl).imp λσ H Q ⟨E,d,q,k⟩=>by
 obtain⟨l,q1,qa⟩:=bind_some q
 obtain⟨ds,q2,qb⟩:=bind_some qa
 obtain⟨ns,q3,qc⟩:=bind_some qb
 obtain⟨y,q4,qd⟩:=bind_some qc
 obtain⟨n,q5,qe⟩:=bind_some qd
 obtain⟨j,q6,qf⟩:=bind_some qe
 cases qf
 cases intD_some q5
 refine⟨E,l,q1,λv H1 s1 i1=>?_⟩
 obtain⟨p,xs,rfl,t,il⟩:=cH q2 i1
 refine⟨.inl ⟨rfl,xs,msk_le.seq t⟩,E.grow s1,_,q4,λyv H2 s2 iy=>?_⟩
 cases(show yv=.int n from iy)
 have hx:=eu q3 il
 subst hx
 exact⟨p,ns,n,j,rfl,rfl,s2.seq (msk_le.seq t),q6,k _ H2 (s1.trans s2) rfl⟩
end
section
variable {X:Cx} {a:Expr} {p pc pos:Pos}
end
structure Gb where
 fn:Str->Option (Nat×(List D->Option Sl))
 cn:Str->Option D
 no:Str->Bool
 fl:Str->Str->Bool
 mt:Str->MT
 ini:Str->Option (Nat×(List D->Option (List (Str×D))))
structure Sn where
 N:List Str
 nm:List (Str×NameKind)
 k:Nat
 G:Gb
structure GbOk (P:Program) (w:World) (K:Frag) (mg:Str->Option Value) (base:Heap) (G:Gb):Prop where
 fn:∀x k f,G.fn x=some (k,f)->Df P w K mg base x k f
 cn:∀x d,G.cn x=some d->Cn K mg x d
 no:∀x,G.no x=true->mg x=none
 fl:∀C m Ca,G.fl C m=true->nsIn K mainGlobals C=some (some (.ref Ca))->Cls K Ca/\NoAttr K Ca m
 mt:∀m C k f,G.mt m C=some (k,f)->Mf P w K mg base C m k f
 ini:∀C k g,G.ini C=some (k,g)->Mkf P w K mg base C k g
structure SnOk (X:Cx) (S:Sn):Prop where
 g:GbOk X.prog X.w X.K X.mg X.base S.G
 N:X.N=S.N
 nd:S.N.Nodup
 calm:X.calm=true
 room:Room S.k X.A
 loc:∀x,S.nm.lookup x=some .local->X.env.scope.names.lookup x=some .local
 cel:∀x,S.nm.lookup x=some .cell->X.env.scope.names.lookup x=some .cell
 fre:∀x,S.nm.lookup x=some .free->X.env.scope.names.lookup x=some .cell\/X.env.scope.names.lookup x=some .free
 glo:∀x,S.nm.lookup x=some .globalImplicit->X.env.kindOf x=some .globalImplicit
def bK (S:Sn) (x:Str):Option Nat:=if dX x&&tM (S.nm.lookup x)then og S.N x else none
def glS (S:Sn) (x:Str):Bool:=dX x&&decide (S.nm.lookup x=some .globalImplicit)
noncomputable def nmF (S:Sn) (x:Str):Vv->Option D:=match bK S x with
 |some i=>λY=>fY Y i
 |none=>if glS S x then(match S.G.cn x with
  |some d=>λ_=>some d
  |none=>if S.G.no x then(match oh x with|some n=>λ_=>some (.ty n)|none=>λ_=>none)elseλ_=>none)elseλ_=>none
section
variable {X:Cx} {S:Sn} {pos:Pos}
theorem pp_no:PP X e (λ_=>none):=λO Y=>(n4 O Y).1
theorem SnOk.vis (o:SnOk X S) (h:tM (S.nm.lookup x)=true):Vis X.env.scope x:=by
 cases e:S.nm.lookup x with
 |none=>rw[e]at h;cases h
 |some k=>
  rw[e]at h;cases k with
  |«local»=>exact .inl (o.loc x e)
  |cell=>exact .inr (.inl (o.cel x e))
  |free=>
   rcases o.fre x e with q|q
   ·exact .inr (.inl q)
   ·exact .inr (.inr q)
  |globalExplicit=>cases h
  |globalImplicit=>cases h
theorem aR (o:SnOk X S) (h:bK S x=some i):dX x=true/\Vis X.env.scope x/\X.N[i]?=some x/\tM (S.nm.lookup x)=true:=by
 unfold bK at h;split at h
 ·rename_i c;rw[and_eq_true]at c;exact⟨c.1,o.vis c.2,by rw[o.N];exact eG h,c.2⟩
 ·cases h
theorem bZ (o:SnOk X S) (h:glS S x=true):dX x=true/\Gl X x:=by
 unfold glS at h;rw[and_eq_true]at h;exact⟨h.1,o.glo x (of_decide_eq_true h.2)⟩
theorem rS (o:SnOk X S) (x:Str):PP X (.Name x pos) (nmF S x):=by
 unfold nmF;split
 ·rename_i i e;obtain⟨h1,h2,h3,_⟩:=aR o e;obtain⟨a,b,c⟩:=dh h1;exact C7 i h3 h2 a b
 ·split
  ·rename_i e;obtain⟨h1,h2⟩:=bZ o e;obtain⟨a,b,c⟩:=dh h1;split
   ·rename_i d hd;exact wH (o.g.cn x d hd) h2 a
   ·split
    ·rename_i hn;split
     ·rename_i n hb;exact FT h2 (o.g.no x hn) (rC hb) c a
     ·exact pp_no
    ·exact pp_no
  ·exact pp_no
end
def aE:Expr->Bool
 |.Starred _ _=>false
 |_=>true
theorem star1 (h:aE e=true):starEach (e::es) env=(false,eval e env)::starEach es env:=by
 cases e<;>first|rfl|cases h
theorem xO:∀ {es:List Expr},es.all aE=true->(backTo pos (starEach es env)).any (·.1)=false
 |[],_=>rfl
 |e::es,h=>by
  rw[List.all_cons,and_eq_true]at h;rw[star1 h.1];show(false||(backTo pos (starEach es env)).any (·.1))=false;rw[xO h.2];rfl
noncomputable def Jm:Operator->Option (D->D->Option D)
 |.Add=>some aC
 |.Sub=>some cQ
 |.Mult=>some aL
 |.FloorDiv=>some jL
 |.Mod=>some bj
 |_=>none
noncomputable def GR (op:Operator) (fa fb:Vv->Option D):Vv->Option D:=match Jm op with
 |some g=>aa g fa fb
 |none=>λ_=>none
def f9:Expr->Bool
 |.Set _ _ _=>false
 |_=>true
theorem noSet_mark (h:f9 b=true):behindInMarks op b=false:=by
 cases b<;>first|rfl|cases h
theorem dA (h:f9 iter=true):∀x,foldedSetIterable iter env x=pure x:=by
 intro x;cases iter<;>first|rfl|cases h
noncomputable def cmpG:CmpOp->Option (D->D->Option D)
 |.Lt=>some ltD
 |.LtE=>some leD
 |.Gt=>some gtD
 |.GtE=>some geD
 |.Eq=>some (aN false)
 |.NotEq=>some (aN true)
 |.In=>some inD
 |.IsNot=>some (wL true)
 |_=>none
noncomputable def vn (op:CmpOp) (b:Expr) (fa fb:Vv->Option D):Vv->Option D:=match cmpG op with
 |some g=>if f9 b then aa g fa fb elseλ_=>none
 |none=>λ_=>none
section
variable {X:Cx} {S:Sn} {a b c:Expr} {pos:Pos}
theorem GS (op:Operator) (ha:PP X a fa) (hb:PP X b fb):PP X (.BinOp a op b pos) (GR op fa fb):=by
 cases op<;>first
  |exact D4 ha hb
  |exact C9 ha hb
  |exact Da ha hb
  |exact Db ha hb
  |exact Dc ha hb
  |exact pp_no
theorem GT (o:SnOk X S) (op:CmpOp) (ha:PP X a fa) (hb:PP X b fb):PP X (.Compare a [op] [b] pos) (vn op b fa fb):=by
 unfold vn;cases op<;>dsimp only[cmpG]<;>(try split)<;>first
  |exact pp_no
  |exact F6 (lt_of_le_of_lt (Nat.le_add_right _ _) (room60 o.room)) ha hb
  |exact F7 ha hb
  |exact F8 (lt_of_le_of_lt (Nat.le_add_right _ _) (room60 o.room)) ha hb
  |exact F9 ha hb
  |exact Gk o.room ha hb
  |exact Gm o.room ha hb
  |(rename_i h;exact pp_cmp (op_inA (lt_of_le_of_lt (Nat.add_le_add_left (show 1<=60 by decide) _) (room60 o.room))) r_in ha hb (noSet_mark h))
  |(rename_i h;exact pp_cmp op_notN r_notN ha hb (noSet_mark h))
theorem D5 (o:SnOk X S) (op:CmpOp) (ha:PP X a fa) (hb:PP X b fb):PQ X (.Compare a [op] [b] pos) (au (vn op b fa fb)):=by
 have no:PQ X (.Compare a [op] [b] pos) (au λ_=>none):=λO Y pins s σ H Q I ⟨_,_,q,_⟩=>by cases q
 unfold vn;cases op<;>dsimp only[cmpG]<;>(try split)<;>first
  |exact no
  |exact Ga (lt_of_le_of_lt (Nat.le_add_right _ _) (room60 o.room)) ha hb
  |exact Gc ha hb
  |exact Ge (lt_of_le_of_lt (Nat.le_add_right _ _) (room60 o.room)) ha hb
  |exact Gf ha hb
  |exact Gn o.room ha hb
  |exact Go o.room ha hb
  |(rename_i h;exact pq_cmp (op_inA (lt_of_le_of_lt (Nat.add_le_add_left (show 1<=60 by decide) _) (room60 o.room))) r_in ha hb (noSet_mark h))
  |(rename_i h;exact pq_cmp op_notN r_notN ha hb (noSet_mark h))
end
noncomputable def xP (x:Str):Option (List D->Option D):=if x=("len":Str)then some cq else if x=("isinstance":Str)then some eZ else if x=("all":Str)then some q0 else if x=("tuple":Str)then some bQ else if x=("max":Str)then some gw else if x=("min":Str)then some re else if x=("any":Str)then some xF else if x=("sum":Str)then some nV else none
noncomputable def xQ (S:Sn) (x:Str):List D->Option D:=if glS S x then(match S.G.fn x with
 |some (k,g)=>if k<=S.k thenλds=>gz (g ds)elseλ_=>none
 |none=>match S.G.ini x with
  |some (k,g)=>if k+1<=S.k thenλds=>AI x (g ds)elseλ_=>none
  |none=>if S.G.no x then(match xP x with|some g=>g|none=>λ_=>none)elseλ_=>none)elseλ_=>none
noncomputable def xR (S:Sn) (x:Str):List D->Option D:=if glS S x then(match S.G.fn x with
 |some (k,g)=>if k<=S.k thenλds=>pO (g ds)elseλ_=>none
 |none=>λ_=>none)elseλ_=>none
section
variable {X:Cx} {S:Sn} {e:Expr} {es:List Expr} {p pos:Pos}
theorem tZ {α β:Type} (o:Option α):(o.bind λ_=>(none:Option β))=none:=by cases o<;>rfl
theorem dB {fa:Vv->Option (List D)}:PP X e (λY=>(fa Y).bind λ_=>none):=λO Y pins s σ H Q I ⟨_,_,q,_⟩=>by dsimp only at q;rw[tZ]at q;cases q
theorem k_call (o:SnOk X S) (x:Str) (ha:PX X (e::es) fa) (hst:(e::es).all aE=true):PP X (.Call (.Name x p) (e::es) [] pos) (λY=>(fa Y).bind (xQ S x)):=by
 rw[List.all_cons,and_eq_true]at hst;have h1:starEach (e::es) X.env=(false,eval e X.env)::starEach es X.env:=star1 hst.1;have h2:∀pos,(backTo pos (starEach es X.env)).any (·.1)=false:=λpos=>xO hst.2;unfold xQ;split
 ·rename_i hg;obtain⟨ok,gl⟩:=bZ o hg;obtain⟨n1,n2,n3⟩:=dh ok;split
  ·rename_i k g hf;split
   ·rename_i hk;exact AG (o.g.fn x k g hf) (o.room.mono hk) gl ha n1 h1 (h2 _)
   ·exact dB
  ·split
   ·rename_i k g hf;split
    ·rename_i hk;exact AJ (o.g.ini x k g hf) (o.room.mono hk) gl ha n1 h1 (h2 _)
    ·exact dB
   ·split
    ·rename_i hn;have hm:=o.g.no x hn;split
     ·rename_i g hb;unfold xP at hb;split at hb
      ·rename_i q;cases hb;subst q;exact pp_callB call_len_seq rn_len gl hm PySem.boot_len ha n3 n1 h1 (h2 _)
      ·split at hb
       ·rename_i q;cases hb;subst q;exact pp_callB call_isi rn_isi gl hm (by decide+kernel) ha n3 n1 h1 (h2 _)
       ·split at hb
        ·rename_i q;cases hb;subst q;exact pp_callB (call_all o.calm) rn_all gl hm (by decide+kernel) ha n3 n1 h1 (h2 _)
        ·split at hb
         ·rename_i q;cases hb;subst q;exact pp_callTy call_tuple_of rn_tuple gl hm (by decide+kernel) ha n3 n1 h1 (h2 _)
         ·split at hb
          ·rename_i q;cases hb;subst q;exact pp_callB (call_max2 o.calm) rn_max gl hm b_max ha n3 n1 h1 (h2 _)
          ·split at hb
           ·rename_i q;cases hb;subst q;exact pp_callB (call_min2 o.calm) rn_min gl hm b_min ha n3 n1 h1 (h2 _)
           ·split at hb
            ·rename_i q;cases hb;subst q;exact pp_callB (call_any o.calm) rn_any gl hm (by decide+kernel) ha n3 n1 h1 (h2 _)
            ·split at hb
             ·rename_i q;cases hb;subst q;exact pp_callB (call_sumL o.calm) rn_sum gl hm b_sum ha n3 n1 h1 (h2 _)
             ·cases hb
     ·exact dB
    ·exact dB
 ·exact dB
theorem k_callR (o:SnOk X S) (x:Str) (ha:PX X (e::es) fa) (hst:(e::es).all aE=true):PFr X (.Call (.Name x p) (e::es) [] pos) (λY=>(fa Y).bind (xR S x)):=by
 rw[List.all_cons,and_eq_true]at hst;have h1:starEach (e::es) X.env=(false,eval e X.env)::starEach es X.env:=star1 hst.1;have h2:∀pos,(backTo pos (starEach es X.env)).any (·.1)=false:=λpos=>xO hst.2;have no:PFr X (.Call (.Name x p) (e::es) [] pos) (λY=>(fa Y).bind λ_=>none):=λY=>by dsimp only;rw[tZ];exact hV Y
 unfold xR;split
 ·rename_i hg;obtain⟨ok,gl⟩:=bZ o hg;obtain⟨n1,n2,n3⟩:=dh ok;split
  ·rename_i k g hf;split
   ·rename_i hk;exact AH (o.g.fn x k g hf) (o.room.mono hk) gl ha n1 h1 (h2 _)
   ·exact no
  ·exact no
 ·exact no
end
noncomputable def rT (N:List Str) (nm:List (Str×NameKind)):List Nat:=(List.range N.length).filter λi=>match N[i]? with|some x=>decide (nm.lookup x=some .local)|none=>false
theorem pX (h:N[i]?=some x) (h2:nm.lookup x=some .local):i∈rT N nm:=by
 unfold rT;rw[List.mem_filter,List.mem_range];refine⟨(List.getElem?_eq_some_iff.mp h).1,?_⟩;rw[h];simp[h2]
def xS (S:Sn) (x:Str):Option Nat:=if S.nm.lookup x=some .local then og S.N x else none
mutual
noncomputable def tgV (S:Sn):Nat->Expr->D->Vv->Option Vv
 |0=>λ_ _ _=>none
 |n+1=>λe=>match e with
  |.Name x _=>(match xS S x with|some i=>gNm i|none=>λ_ _=>none)
  |.Tuple ts _ _=>if ts.all aE then gTp ts.length (A8 S n ts)elseλ_ _=>none
  |_=>λ_ _=>none
noncomputable def A8 (S:Sn):Nat->List Expr->List D->Vv->Option Vv
 |0=>λ_ _ _=>none
 |n+1=>λes=>match es with
  |[]=>e8
  |t::ts=>if aE t then bf (tgV S n t) (A8 S n ts)elseλ_ _=>none
end
noncomputable def ot (S:Sn) (x:Str):Option Nat:=if S.nm.lookup x=some .local\/S.nm.lookup x=some .cell then og S.N x else none
mutual
noncomputable def tgE (S:Sn):Nat->Expr->D->Ev->Option Ev
 |0=>λ_ _ _=>none
 |n+1=>λe=>match e with
  |.Name x _=>(match ot S x with|some i=>eNm i|none=>λ_ _=>none)
  |.Tuple ts _ _=>if ts.all aE then eTp ts.length (A9 S n ts)elseλ_ _=>none
  |_=>λ_ _=>none
noncomputable def A9 (S:Sn):Nat->List Expr->List D->Ev->Option Ev
 |0=>λ_ _ _=>none
 |n+1=>λes=>match es with
  |[]=>wU
  |t::ts=>if aE t then nk (tgE S n t) (A9 S n ts)elseλ_ _=>none
end
section
variable {X:Cx} {S:Sn}
theorem asg1 (h:aE t=true):(assignEach (t::ts) env).map (·.2)=assign t env::(assignEach ts env).map (·.2):=by
 cases t<;>first|rfl|cases h
theorem asgLen:∀ {ts:List Expr},(assignEach ts env).length=ts.length
 |[]=>rfl
 |t::ts=>by cases t<;>exact congrArg (·+1) (asgLen (ts:=ts))
theorem xU:∀ {ts:List Expr},ts.all aE=true->(assignEach ts env).findIdx? (·.1)=none
 |[],_=>rfl
 |t::ts,h=>by
  rw[List.all_cons,and_eq_true]at h;have ih:=xU (env:=env) h.2;have:assignEach (t::ts) env=(false,assign t env)::assignEach ts env:=by
   have h1:=h.1;cases t<;>first|rfl|cases h1
  rw[this,List.findIdx?_cons];simp[ih]
theorem t4:PGD X ks e (λ_ _=>none):=λO Y d pins s σ H v u Q I r ⟨_,_,_,q,_⟩=>by cases q
theorem xV:uV X ks e (λ_ _=>none):=λO Y d pins s σ H v u Q I r ⟨_,_,_,q,_⟩=>by cases q
theorem t5:PGE X e (λ_ _=>none):=λB O Y d pins s σ H v u Q I r ⟨_,_,_,q,_⟩=>by cases q
theorem xW:u4 X e (λ_ _=>none):=λB O Y d pins s σ H v u Q I r ⟨_,_,_,q,_⟩=>by cases q
theorem rV (h:xS S x=some i):S.nm.lookup x=some .local/\S.N[i]?=some x:=by
 unfold xS at h;split at h
 ·exact⟨by assumption,eG h⟩
 ·cases h
theorem pY (h:ot S x=some i):(S.nm.lookup x=some .local\/S.nm.lookup x=some .cell)/\S.N[i]?=some x:=by
 unfold ot at h;split at h
 ·exact⟨by assumption,eG h⟩
 ·cases h
theorem Ch (o:SnOk X S):∀n,(∀e,PGD X (rT S.N S.nm) e (tgV S n e))/\∀es,uV X (rT S.N S.nm) es (A8 S n es):=by
 intro n;induction n with
 |zero=>exact⟨λe=>t4,λes=>xV⟩
 |succ n ih=>
  refine⟨λe=>?_,λes=>?_⟩
  ·unfold tgV;split
   ·split
    ·rename_i i hi;obtain⟨h1,h2⟩:=rV hi;exact Ao (by rw[o.N];exact o.nd) (by rw[o.N];exact h2) (.inl (o.loc _ h1)) (pX h2 h1) (.inr (o.loc _ h1))
    ·exact t4
   ·split
    ·rename_i h;exact Dn o.calm (ih.2 _) asgLen (xU h)
    ·exact t4
   ·exact t4
  ·unfold A8;split
   ·exact Ap
   ·split
    ·rename_i h;exact gsd_cons (ih.1 _) (ih.2 _) (asg1 h)
    ·exact xV
theorem xX (o:SnOk X S) (hf:∀x,X.fn x=true):∀n,(∀e,PGE X e (tgE S n e))/\∀es,u4 X es (A9 S n es):=by
 intro n;induction n with
 |zero=>exact⟨λe=>t5,λes=>xW⟩
 |succ n ih=>
  refine⟨λe=>?_,λes=>?_⟩
  ·unfold tgE;split
   ·split
    ·rename_i i hi;obtain⟨h1,h2⟩:=pY hi;have hl:Loc X.env.scope _:=h1.elim (λh=>.inl (o.loc _ h)) (λh=>.inr (o.cel _ h));exact AD (by rw[o.N];exact o.nd) (by rw[o.N];exact h2) hl (.inl (hf _))
    ·exact t5
   ·split
    ·rename_i h;exact DC o.calm (ih.2 _) asgLen (xU h)
    ·exact t5
   ·exact t5
  ·unfold A9;split
   ·exact AE
   ·split
    ·rename_i h;exact gse_cons (ih.1 _) (ih.2 _) (asg1 h)
    ·exact xW
noncomputable def ie (S:Sn) (sc:Scope):Bool:=decide (sc.kind=.function)&&sc.names.all λy=>!decide (y.2=.cell)&&(!decide (y.2=.local)||decide (sc.names.lookup y.1=some .local))&&
 (!decide (y.2=.free)||decide (S.nm.lookup y.1=some .cell)||decide (S.nm.lookup y.1=some .free))
theorem rW (o:SnOk X S) (h:ie S sc=true):CSc X sc (rT S.N sc.names):=by
 unfold ie at h;rw[and_eq_true]at h;have hk:=of_decide_eq_true h.1;have ha:=List.all_eq_true.mp h.2;refine⟨hk,λy hy z=>?_,λy hy z=>?_,λy hy z=>?_,λi x hx hl=>pX (by rw[<-o.N];exact hx) hl⟩
 ·have:=ha y hy;simp[z]at this
 ·have:=ha y hy;simp[z]at this;exact this
 ·have:=ha y hy;simp[z]at this;rcases this with q|q
  ·exact .inl (o.cel _ q)
  ·exact o.fre _ q
theorem jA {f:Str → NameKind → NameKind}:∀ {l:List (Str × NameKind)},(l.map fun y=>(y.1,f y.1 y.2)).lookup x = (l.lookup x).map (f x)
  | []=>rfl
  | (n,k) :: l=>by
    rw [List.map_cons,List.lookup_cons,List.lookup_cons]
    cases h:x == n with
    | true => have : x = n := by simpa using h
              subst this; rfl
    | false=>exact jA
theorem eL:(relabel sc env).names.lookup x=(sc.names.lookup x).map λk=>if(k==NameKind.free&&env.scope.kind==.function&&env.kindOf x==some .cell)then NameKind.cell else k:=by
 have e:(relabel sc env).names=sc.names.map λy=>(y.1,if(y.2==NameKind.free&&env.scope.kind==ScopeKind.function&&env.kindOf y.1==some NameKind.cell)then NameKind.cell else y.2):=by
  show(sc.names.map λ(n,k)=>if(k==NameKind.free&&env.scope.kind==ScopeKind.function&&env.kindOf n==some NameKind.cell)then(n,NameKind.cell)else(n,k))=_;apply List.map_congr_left;rintro⟨n,k⟩ _;dsimp only;split<;>rfl
 rw[e];exact jA (f:=λn k=>if(k==NameKind.free&&env.scope.kind==ScopeKind.function&&env.kindOf n==some NameKind.cell)then NameKind.cell else k)
theorem pZ (o:SnOk X S) {sc:Scope} (h:ie S sc=true) (C:Addr) (s:Shared) (H:Hp) (fp:List Addr):SnOk (cxC X sc C s H fp) {S with nm:=sc.names} where
 g:=o.g
 N:=o.N
 nd:=o.nd
 calm:=o.calm
 room:=o.room
 loc:=λx q=>by
  show(relabel sc X.env).names.lookup x=_;rw[eL,show sc.names.lookup x=some .local from q];rfl
 cel:=λx q=>by
  exfalso;have q':sc.names.lookup x=some .cell:=q;exact(rW o h).nocell _ (PySem.mem_of_lookup q') rfl
 fre:=λx q=>by
  show(relabel sc X.env).names.lookup x=_\/(relabel sc X.env).names.lookup x=_;rw[eL,show sc.names.lookup x=some .free from q];dsimp only[Option.map];split
  ·exact .inl rfl
  ·exact .inr rfl
 glo:=λx q=>by
  show(relabel sc X.env).names.lookup x=_;rw[eL,show sc.names.lookup x=some .globalImplicit from q];rfl
end
noncomputable def xY:Const->Vv->Option D
 |.int i=>λ_=>some (.int i)
 |.bool b=>λ_=>some (.bl b)
 |.none=>λ_=>some .non
 |.str x=>λ_=>some (.str x)
 |_=>λ_=>none
def noV {α:Type}:Vv->Option α:=λ_=>none
noncomputable def xZ:Expr->Bool
 |.UnaryOp .Not _ _=>false
 |.BoolOp _ _ _=>false
 |.IfExp _ _ _ _=>false
 |.Compare _ _ _ _=>false
 |_=>true
theorem plainT_ok (h:xZ e=true):∀whole,isTrue e env whole=(do let v<-whole;standAt e.pos;holding [v] (truthy v)):=by
 intro whole;cases e with
 |UnaryOp op a pos=>cases op<;>first|rfl|cases h
 |BoolOp _ _ _=>cases h
 |IfExp _ _ _ _=>cases h
 |Compare _ _ _ _=>cases h
 |_=>rfl
def x8:Expr->Bool
 |.Slice _ _ _ _=>false
 |_=>true
theorem noSl_ok (h:x8 b=true):jY b:=by
 intro o i;cases b<;>first|rfl|cases h
def GU:Expr->Bool
 |.Name _ _=>true
 |_=>false
def lsB:Expr->Bool
 |.BinOp _ op b _=>(match op with
  |.Add=>GU b
  |_=>false)
 |_=>false
def Jn:Expr->Bool
 |.Tuple _ _ _=>true
 |_=>false
mutual
noncomputable def rd:Nat->Sn->Expr->Vv->Option D
 |0=>λ_ _=>noV
 |n+1=>λS e=>match e with
  |.Constant c _ _=>xY c
  |.Name x _=>nmF S x
  |.BinOp a op b _=>GR op (rd n S a) (rd n S b)
  |.UnaryOp op a _=>(match op with
   |.Not=>wz (rd n S a)
   |.USub=>λY=>(rd n S a Y).bind wK
   |_=>noV)
  |.BoolOp op vs p=>rl n S op vs p
  |.Compare a ops bs _=>(match ops,bs with
   |[op],[b]=>vn op b (rd n S a) (rd n S b)
   |[.LtE,.LtE],[b,c]=>if f9 c then bI leD leD (rd n S a) (rd n S b) (rd n S c)else noV
   |[.LtE,.Lt],[b,c]=>if f9 c then bI leD ltI (rd n S a) (rd n S b) (rd n S c)else noV
   |_,_=>noV)
  |.IfExp c a b _=>ifF (rq n S c) (rd n S a) (rd n S b)
  |.Tuple es _ _=>λY=>(bJ (rx n S es Y)).bind λds=>some (.tup ds)
  |.Attribute o m _=>(match o with
   |.Name x _=>λY=>(nmF S x Y).bind (rD S.G.fl m)
   |_=>noV)
  |.Subscript a b _=>(match b with
   |.Slice lo hi none _=>orO (uY (rd n S a) (ro n S lo) (ro n S hi)) λY=>(nY (rd n S a) (ro n S lo) (ro n S hi) Y).map D.lst
   |b=>if x8 b then aa ixD (rd n S a) (rd n S b)else noV)
  |.Call f as ks pos=>(match f,as,ks with
   |.Name f _,a::as,[]=>orO (if(a::as).all aE thenλY=>(rx n S (a::as) Y).bind (xQ S f)else noV) λY=>(rf n S e Y).map D.lst
   |.Attribute o m apos,[a],[]=>(match o with
    |.Name x _=>if m=("index":Str)then(if aE a&&(apos.endLine==pos.line)then A7 (nmF S x) (rd n S a)else noV)else noV
    |_=>noV)
   |_,_,_=>noV)
  |_=>λY=>(rf n S e Y).map D.lst
noncomputable def rl:Nat->Sn->BoolOp->List Expr->Pos->Vv->Option D
 |0=>λ_ _ _ _=>noV
 |n+1=>λS op vs p=>match op,vs with
  |_,[a]=>rd n S a
  |.And,a::b::r=>eU (rd n S a) (rl n S .And (b::r) p)
  |_,_=>noV
noncomputable def rq:Nat->Sn->Expr->Vv->Option Bool
 |0=>λ_ _=>noV
 |n+1=>λS e=>match e with
  |.UnaryOp op a _=>(match op with
   |.Not=>bP (rq n S a)
   |_=>noV)
  |.BoolOp op vs p=>rb n S op vs p
  |.Compare a ops bs _=>(match ops,bs with
   |[op],[b]=>au (vn op b (rd n S a) (rd n S b))
   |[.LtE,.LtE],[b,c]=>if f9 c then au (bI leD leD (rd n S a) (rd n S b) (rd n S c))else noV
   |_,_=>noV)
  |e=>if xZ e thenλY=>(rd n S e Y).bind uQ else noV
noncomputable def rb:Nat->Sn->BoolOp->List Expr->Pos->Vv->Option Bool
 |0=>λ_ _ _ _=>noV
 |n+1=>λS op vs p=>match op,vs with
  |.And,[a]=>rq n S a
  |.Or,[a]=>rq n S a
  |.And,a::b::r=>uP (rq n S a) (rb n S .And (b::r) p)
  |.Or,a::b::r=>orQ (rq n S a) (rb n S .Or (b::r) p)
  |_,_=>noV
noncomputable def rx:Nat->Sn->List Expr->Vv->Option (List D)
 |0=>λ_ _=>noV
 |n+1=>λS es=>match es with
  |[]=>λ_=>some []
  |a::as=>if aE a then ae (rd n S a) (rx n S as)else noV
noncomputable def ro:Nat->Sn->Option Expr->Vv->Option (Option Int)
 |0=>λ_ _=>noV
 |n+1=>λS e=>match e with
  |none=>λ_=>some none
  |some e=>cZ (rd n S e)
noncomputable def rf:Nat->Sn->Expr->Vv->Option (List D)
 |0=>λ_ _=>noV
 |n+1=>λS e=>match e with
  |.List es _=>λY=>bJ (rx n S es Y)
  |.ListComp elt gs sc _=>(match gs with
   |[g]=>if ie S sc&&f9 g.iter&&decide (g.is_async=0)then
    aq (rT S.N sc.names) (rj n S g.target g.iter) (tgV {S with nm:=sc.names} n g.target) (rqs n {S with nm:=sc.names} g.ifs) (rd n {S with nm:=sc.names} elt)else noV
   |_=>noV)
  |.Subscript a b _=>(match b with
   |.Slice lo hi none _=>nY (rd n S a) (ro n S lo) (ro n S hi)
   |_=>noV)
  |.BinOp a op b _=>if lsB e then(match op with
   |.Add=>pQ (rd n S a) (rd n S b)
   |_=>noV)else noV
  |.Call f as ks _=>(match f,as,ks with
   |.Name f _,[a],[]=>if f=("list":Str)/\glS S f=true/\S.G.no f=true/\aE a=true then orO (rv n S a) (λY=>(rx n S [a] Y).bind m6)
    else if f=("sorted":Str)/\glS S f=true/\S.G.no f=true/\aE a=true thenλY=>(rx n S [a] Y).bind bT else noV
   |_,_,_=>noV)
  |_=>noV
noncomputable def rv:Nat->Sn->Expr->Vv->Option (List D)
 |0=>λ_ _=>noV
 |n+1=>λS e=>match e with
  |.Call f as ks _=>(match f,as,ks with
   |.Name f _,[a],[]=>if f=("range":Str)/\glS S f=true/\S.G.no f=true/\glS S "list"=true/\S.G.no "list"=true/\aE a=true thenλY=>(rx n S [a] Y).bind lrD else noV
   |_,_,_=>noV)
  |_=>noV
noncomputable def rqs:Nat->Sn->List Expr->Vv->Option Bool
 |0=>λ_ _=>noV
 |n+1=>λS es=>match es with
  |[]=>λ_=>some true
  |[c]=>rq n S c
  |_=>noV
noncomputable def rj:Nat->Sn->Expr->Expr->Vv->Option (List D)
 |0=>λ_ _ _=>noV
 |n+1=>λS tg e=>orO (match e with
  |.Call f as ks _=>(match f,as,ks with
   |.Name f _,[a],[]=>if f=("range":Str)/\glS S f=true/\S.G.no f=true/\aE a=true thenλY=>(rx n S [a] Y).bind kP
    else if f=("enumerate":Str)/\glS S f=true/\S.G.no f=true/\aE a=true/\Jn tg=true thenλY=>(rx n S [a] Y).bind tO else noV
   |_,_,_=>noV)
  |_=>noV) λY=>(rd n S e Y).bind seqD
end
section
variable {X:Cx} {S:Sn} {e:Expr} {es:List Expr} {pos:Pos}
theorem PP.u (h:PP X e f) (hc:fg e=false):PPu X e f:=λO Y=>(h O Y).pu hc
theorem PPu.p (h:PPu X e f):PP X e f:=λO Y=>(h O Y).1
theorem PF.u (h:PF X e f) (hc:fg e=false):PFu X e f:=λO Y=>(h O Y).pu hc
theorem p8:PQ X e noV:=λO Y pins s σ H Q I ⟨_,_,q,_⟩=>by cases q
theorem x9:PWQ X e noV:=λO Y wh pins s σ H Q I ⟨_,_,q,_⟩=>by cases q
theorem Ci:PX X es noV:=λO Y pos pins s σ H Q I ⟨_,_,q,_⟩=>by cases q
theorem yc:PQs X es noV:=λO Y pins s σ H Q I ⟨_,_,q,_⟩=>by cases q
theorem t6:PJ X tg e noV:=λO Y pins s σ H R I ⟨_,_,q,_⟩=>by cases q
theorem D6 {e}:PPo X e noV:=λO Y pins s σ H Q I ⟨_,_,q,_⟩=>by cases q
theorem GV (h1:PJ X tg e f) (h2:PJ X tg e g):PJ X tg e (orO f g):=λO Y pins s σ H R I ⟨E,ds,q,k⟩=>by
 rcases or_some q with q|q
 ·exact h1 O Y pins s σ H R I ⟨E,ds,q,k⟩
 ·exact h2 O Y pins s σ H R I ⟨E,ds,q,k⟩
theorem Ba {K} (h:tP K O Y (o.map D.lst) σ H Q):tPF K O Y o σ H Q:=by
 obtain⟨E,d,e,k⟩:=h;cases o with
 |none=>cases e
 |some ds=>
  cases e;refine⟨E,ds,rfl,λp xs H' s hp l=>?_⟩;have hO:=(E.grow s).fresh hp;exact k _ _ (s.trans (Same.new hp)) ⟨p,xs,rfl,.of (by rw[aG hO,ah]),IsL.mono (Same.new hp).msk _ _ l⟩
theorem PFu.pp (h:PFu X e f):PPu X e (λY=>(f Y).map D.lst):=λO Y=>(h O Y).imp λσ H Q q=>Ba q
theorem D7 (h1:PFu X e f) (h2:PFu X e g):PFu X e (orO f g):=λO Y=>(h1 O Y).by2 (h2 O Y) λσ H Q ⟨E,ds,q,k⟩=>by
 rcases or_some q with q|q
 ·exact .inl ⟨E,ds,q,k⟩
 ·exact .inr ⟨E,ds,q,k⟩
theorem ye (hc:X.calm=true) (C:CSc X scope ks) (hi:PJ X tg iter fi) (hg:∀C s H fp,PGD (cxC X scope C s H fp) ks tg g) (ht:∀C s H fp,PQs (cxC X scope C s H fp) ifs ft) (he:∀C s H fp,PP (cxC X scope C s H fp) elt fe) (hs:∀x,foldedSetIterable iter X.env x=pure x):PFu X (.ListComp elt [⟨tg,iter,ifs,0⟩] scope pos) (aq ks fi g ft fe):=λO Y=>
 (tH hc C (hi O Y) (λC s H fp=>PG.ex λz:(Addr->Bool)×Vv×D=>hg C s H fp z.1 z.2.1 z.2.2) (λC s H fp=>PTs.ex λz:(Addr->Bool)×Vv=>ht C s H fp z.1 z.2) (λC s H fp=>PE.ex λz:(Addr->Bool)×Vv=>he C s H fp z.1 z.2) hs).imp λσ H Q h=>wD h
theorem Bb (hc:X.calm=true) (C:CSc X scope ks) (hi:PJ X tg iter fi) (hg:∀C s H fp,PGD (cxC X scope C s H fp) ks tg g) (ht:∀C s H fp,PQs (cxC X scope C s H fp) ifs ft) (he:∀C s H fp,PFr (cxC X scope C s H fp) elt fe) (hs:∀x,foldedSetIterable iter X.env x=pure x):PFr X (.ListComp elt [⟨tg,iter,ifs,0⟩] scope pos) (λY=>(aq ks fi g ft fe Y).bind λds=>some (.lst ds)):=λY=>
 (tH hc C (hi noO Y) (λC s H fp=>PG.ex λz:(Addr->Bool)×Vv×D=>hg C s H fp z.1 z.2.1 z.2.2) (λC s H fp=>PTs.ex λz:(Addr->Bool)×Vv=>ht C s H fp z.1 z.2) (λC s H fp=>PE.ex λz:Vv=>(he C s H fp z).1) hs).imp λσ H Q h=>rm h
theorem Bc (c:Const):PP X (.Constant c j pos) (xY c):=by
 cases c<;>first|exact pp_int|exact pp_bl|exact pp_non|exact pp_str|exact pp_no
structure Snd (n:Nat):Prop where
 rd:∀X S,SnOk X S->∀e,PPu X e (rd n S e)
 rl:∀X S,SnOk X S->∀op vs p,PP X (.BoolOp op vs p) (rl n S op vs p)
 rq:∀X S,SnOk X S->∀e,PQ X e (rq n S e)
 rb:∀X S,SnOk X S->∀op vs p,PWQ X (.BoolOp op vs p) (rb n S op vs p)
 rx:∀X S,SnOk X S->∀es,PX X es (rx n S es)
 ro:∀X S,SnOk X S->∀e,PPo X e (ro n S e)
 rf:∀X S,SnOk X S->∀e,PFu X e (rf n S e)
 rv:∀X S,SnOk X S->∀e p q,PFu X (.Call (.Name "list" p) [e] [] q) (rv n S e)
 rqs:∀X S,SnOk X S->∀es,PQs X es (rqs n S es)
 rj:∀X S,SnOk X S->∀tg e,PJ X tg e (rj n S tg e)
theorem lastM (h:f9 c=true):lastMarks [.LtE,.LtE] [b,c]=false:=noSet_mark h
theorem Jo (n:Nat) (I:Snd n) (o:SnOk X S) (e:Expr):PPu X e (rd (n+1) S e):=by
 have P:=λe=>(I.rd X S o e).p;have no:PPu X e noV:=n4;unfold L2.rd;split
 ·exact(Bc _).u rfl
 ·exact(rS o _).u rfl
 ·exact(GS _ (P _) (P _)).u rfl
 ·split
  ·exact(Dg (P _)).u rfl
  ·exact(Dr (P _)).u rfl
  ·exact no
 ·exact(I.rl X S o _ _ _).u rfl
 ·split
  ·exact(GT o _ (P _) (P _)).u rfl
  ·split
   ·rename_i h;exact(pp_lele (P _) (P _) (P _) (lastM h)).u rfl
   ·exact no
  ·split
   ·rename_i h;exact(pp_lelt (P _) (P _) (P _) (noSet_mark h)).u rfl
   ·exact no
  ·exact no
 ·exact(Gg (I.rq X S o _) (P _) (P _)).u rfl
 ·exact(Dj (I.rx X S o _)).u rfl
 ·split
  ·exact(DF (rS o _) (λC Ca h1 h2=>o.g.fl C _ Ca h1 h2) rfl).u rfl
  ·exact no
 ·split
  ·exact wQ ((Dt (P _) (I.ro X S o _) (I.ro X S o _)).u rfl) ((wP (P _) (I.ro X S o _) (I.ro X S o _)).u rfl).pp
  ·split
   ·rename_i h;exact(pp_ix (P _) (P _) (noSl_ok h)).u rfl
   ·exact no
 ·split
  ·refine wQ ?_ (I.rf X S o _).pp;split
   ·rename_i h;exact(k_call o _ (I.rx X S o _) h).u rfl
   ·exact n4
  ·split
   ·split
    ·rename_i hm;subst hm;split
     ·rename_i h;rw[and_eq_true]at h;exact(xN (rS o _) (P _) (star1 h.1) h.2).u rfl
     ·exact no
    ·exact no
   ·exact no
  ·exact no
 ·exact(I.rf X S o _).pp
theorem Jp (n:Nat) (I:Snd n) (o:SnOk X S) (op:BoolOp) (vs:List Expr) (p:Pos):PP X (.BoolOp op vs p) (rl (n+1) S op vs p):=by
 have P:=λe=>(I.rd X S o e).p;unfold L2.rl;split
 ·exact Dd (P _)
 ·exact De (P _) (I.rl X S o _ _ _)
 ·exact pp_no
theorem Jq (n:Nat) (I:Snd n) (o:SnOk X S) (e:Expr):PQ X e (rq (n+1) S e):=by
 have P:=λe=>(I.rd X S o e).p;unfold L2.rq;split
 ·split
  ·exact Dh (I.rq X S o _)
  ·exact p8
 ·exact(I.rb X S o _ _ _).pq
 ·split
  ·exact D5 o _ (P _) (P _)
  ·split
   ·rename_i h;exact pq_lele (P _) (P _) (P _) (lastM h)
   ·exact p8
  ·exact p8
 ·split
  ·rename_i h;exact pq_val (P _) (plainT_ok h)
  ·exact p8
theorem Jr (n:Nat) (I:Snd n) (o:SnOk X S) (op:BoolOp) (vs:List Expr) (p:Pos):PWQ X (.BoolOp op vs p) (rb (n+1) S op vs p):=by
 unfold L2.rb;split
 ·exact pw_and1D (I.rq X S o _)
 ·exact pw_or1D (I.rq X S o _)
 ·exact pw_andD (I.rq X S o _) (I.rb X S o _ _ _)
 ·exact pw_orD (I.rq X S o _) (I.rb X S o _ _ _)
 ·exact x9
theorem Js (n:Nat) (I:Snd n) (o:SnOk X S) (es:List Expr):PX X es (rx (n+1) S es):=by
 unfold L2.rx;split
 ·exact Di
 ·split
  ·rename_i h;exact px_cons (I.rd X S o _).p (I.rx X S o _) (star1 h)
  ·exact Ci
theorem Jt (n:Nat) (I:Snd n) (o:SnOk X S) (e:Option Expr):PPo X e (ro (n+1) S e):=by
 unfold L2.ro;split
 ·exact wN
 ·exact wO (I.rd X S o _).p
theorem GW (n:Nat) (I:Snd n) (o:SnOk X S) (es:List Expr):PQs X es (rqs (n+1) S es):=by
 unfold L2.rqs;split
 ·exact Aq
 ·exact Ar (I.rq X S o _)
 ·exact yc
theorem D8:bootBuiltins "list"=some (.type "list"):=by decide+kernel
theorem Ju (n:Nat) (I:Snd n) (o:SnOk X S) (e:Expr):PFu X e (rf (n+1) S e):=by
 have P:=λe=>(I.rd X S o e).p;unfold L2.rf;split
 ·exact(Dk (I.rx X S o _)).u rfl
 ·rename_i elt gs sc p;split
  ·rename_i g;split
   ·rename_i h;rw[and_eq_true,and_eq_true]at h;obtain⟨tg,iter,ifs,as⟩:=g;have ha:as=0:=of_decide_eq_true h.2;subst ha;have hb:=pZ o h.1.1;exact ye o.calm (rW o h.1.1) (I.rj X S o _ _) (λC s H fp=>(Ch (hb C s H fp) n).1 tg) (λC s H fp=>I.rqs _ _ (hb C s H fp) _) (λC s H fp=>(I.rd _ _ (hb C s H fp) _).p) (dA h.1.2)
   ·exact cr
  ·exact cr
 ·split
  ·exact(wP (P _) (I.ro X S o _) (I.ro X S o _)).u rfl
  ·exact cr
 ·split
  ·split
   ·exact(DL (P _) (P _)).u rfl
   ·exact cr
  ·exact cr
 ·split
  ·split
   ·rename_i h;obtain⟨rfl,h1,h2,h3⟩:=h;obtain⟨ok,gl⟩:=bZ o h1;exact D7 (I.rv X S o _ _ _) ((Ak gl (o.g.no _ h2) D8 (I.rx X S o _) (star1 h3)).u rfl)
   ·split
    ·rename_i h;obtain⟨rfl,h1,h2,h3⟩:=h;obtain⟨ok,gl⟩:=bZ o h1;exact(xD o.room gl (o.g.no _ h2) (I.rx X S o _) (star1 h3)).u rfl
    ·exact cr
  ·exact cr
 ·exact cr
theorem Jv (n:Nat) (I:Snd n) (o:SnOk X S) (e:Expr) (p q:Pos):PFu X (.Call (.Name "list" p) [e] [] q) (rv (n+1) S e):=by
 unfold L2.rv;split
 ·split
  ·split
   ·rename_i h;obtain⟨rfl,h1,h2,h3,h4,h5⟩:=h;obtain⟨ok,gl⟩:=bZ o h1;obtain⟨ok2,gl2⟩:=bZ o h3;exact(AV o.calm gl2 (o.g.no _ h4) gl (o.g.no _ h2) (I.rx X S o _) (star1 h5)).u rfl
   ·exact cr
  ·exact cr
 ·exact cr
theorem Jw (n:Nat) (I:Snd n) (o:SnOk X S) (tg e:Expr):PJ X tg e (rj (n+1) S tg e):=by
 unfold L2.rj;refine GV ?_ (Dm (I.rd X S o _).p);split
 ·split
  ·split
   ·rename_i h;obtain⟨rfl,h1,h2,h3⟩:=h;obtain⟨ok,gl⟩:=bZ o h1;exact uU gl (o.g.no _ h2) (I.rx X S o _) (star1 h3)
   ·split
    ·rename_i h;obtain⟨rfl,h1,h2,h3,h4⟩:=h;obtain⟨ok,gl⟩:=bZ o h1;cases tg<;>first
      |exact DK gl (o.g.no _ h2) (I.rx X S o _) (star1 h3)
      |cases h4
    ·exact t6
  ·exact t6
 ·exact t6
theorem sound:∀n,Snd n
 |0=>⟨λ_ _ _ _=>n4,λ_ _ _ _ _ _=>pp_no,λ_ _ _ _=>p8,λ_ _ _ _ _ _=>x9,λ_ _ _ _=>Ci,λ_ _ _ _=>D6,λ_ _ _ _=>cr,λ_ _ _ _ _ _=>cr,λ_ _ _ _=>yc,λ_ _ _ _ _=>t6⟩
 |n+1=>⟨λX S o e=>Jo n (sound n) o e,λX S o op vs p=>Jp n (sound n) o op vs p,λX S o e=>Jq n (sound n) o e,λX S o op vs p=>Jr n (sound n) o op vs p,λX S o es=>Js n (sound n) o es,λX S o e=>Jt n (sound n) o e,
  λX S o e=>Ju n (sound n) o e,λX S o e p q=>Jv n (sound n) o e p q,λX S o es=>GW n (sound n) o es,λX S o tg e=>Jw n (sound n) o tg e⟩
end
def yf:Expr->Option Const
 |.Constant c _ _=>some c
 |_=>none
theorem lA (h:yf e=some c):∃j p,e=.Constant c j p:=by
 cases e<;>first|(cases h;exact⟨_,_,rfl⟩)|cases h
mutual
noncomputable def fr:Nat->Sn->Expr->Vv->Option D
 |0=>λ_ _=>noV
 |n+1=>λS e=>orO (λY=>lfO (rd n S e Y)) (orO (λY=>mo (rf n S e Y)) (match e with
  |.List es _=>λY=>(bJ (frl n S es Y)).bind λds=>some (.lst ds)
  |.Tuple es _ _=>λY=>(bJ (frl n S es Y)).bind λds=>some (.tup ds)
  |.Dict ks vs _=>(match ks,vs with
   |[],[]=>λ_=>some (.dct [] [])
   |[some a],[b]=>(match yf a,yf b with
    |some (.int k),some (.bool b)=>λ_=>some (.dct [.inl k] [.bl b])
    |_,_=>noV)
   |_,_=>noV)
  |.ListComp elt gs sc _=>(match gs with
   |[g]=>if ie S sc&&f9 g.iter&&decide (g.is_async=0)then
    λY=>(aq (rT S.N sc.names) (rj n S g.target g.iter) (tgV {S with nm:=sc.names} n g.target) (rqs n {S with nm:=sc.names} g.ifs) (fr n {S with nm:=sc.names} elt) Y).bind λds=>some (.lst ds)else noV
   |_=>noV)
  |.Call f as ks _=>(match f,as,ks with
   |.Name f _,a::as,[]=>if(a::as).all aE thenλY=>(rx n S (a::as) Y).bind (xR S f)else noV
   |_,_,_=>noV)
  |_=>noV))
noncomputable def frl:Nat->Sn->List Expr->Vv->Option (List D)
 |0=>λ_ _=>noV
 |n+1=>λS es=>match es with
  |[]=>λ_=>some []
  |a::as=>if aE a then ae (fr n S a) (frl n S as)else noV
end
section
variable {X:Cx} {S:Sn} {e:Expr} {es:List Expr} {pos:Pos}
theorem yg:rh X es noV:=λY pos pins s σ H Q I ⟨_,_,q,_⟩=>by cases q
theorem Jx:∀n,(∀X S,SnOk X S->∀e,PFr X e (fr n S e))/\∀X S,SnOk X S->∀es,rh X es (frl n S es):=by
 intro n;induction n with
 |zero=>exact⟨λX S o e=>hV,λX S o es=>yg⟩
 |succ n ih=>
  refine⟨λX S o e=>?_,λX S o es=>?_⟩
  ·unfold fr;refine B5 (Gs ((sound n).rd X S o e)) (B5 (Dv ((sound n).rf X S o e)) ?_);split
   ·exact Dw (ih.2 X S o _)
   ·exact Dx (ih.2 X S o _)
   ·split
    ·exact DN
    ·split
     ·rename_i k b h1 h2;obtain⟨_,_,rfl⟩:=lA h1;obtain⟨_,_,rfl⟩:=lA h2;exact A6
     ·exact hV
    ·exact hV
   ·rename_i elt gs sc p;split
    ·rename_i g;split
     ·rename_i h;rw[and_eq_true,and_eq_true]at h;obtain⟨tg,iter,ifs,as⟩:=g;have ha:as=0:=of_decide_eq_true h.2;subst ha;have hb:=pZ o h.1.1;exact Bb o.calm (rW o h.1.1) ((sound n).rj X S o _ _) (λC s H fp=>(Ch (hb C s H fp) n).1 tg) (λC s H fp=>(sound n).rqs _ _ (hb C s H fp) _) (λC s H fp=>ih.1 _ _ (hb C s H fp) _) (dA h.1.2)
     ·exact hV
    ·exact hV
   ·split
    ·split
     ·rename_i h;exact k_callR o _ ((sound n).rx X S o _) h
     ·exact hV
    ·exact hV
   ·exact hV
  ·unfold frl;split
   ·exact Ay
   ·split
    ·rename_i h;exact frs_cons (ih.1 X S o _) (ih.2 X S o _) (star1 h)
    ·exact yg
end
noncomputable def ev (n:Nat) (S:Sn) (e:Expr):Ev->Option (Sl×Ev):=orO (n5 (fr n S e)) (orO (tI (rf n S e)) (orO (Az (rd n S e)) (Dy (rd n S e))))
theorem vo (n:Nat) (o:SnOk X S) (e:Expr):PEv X e (ev n S e):=tK (Gu ((Jx n).1 X S o e)) (tK (Dz ((sound n).rf X S o e)) (tK (Gv ((sound n).rd X S o e)) (Gw ((sound n).rd X S o e))))
structure TnOk (X:Cx) (S:Sn):Prop where
 s:SnOk X S
 fn:∀x,X.fn x=true
 nox:X.xe=λ_ _=>False
 nm:X.env.scope.names=S.nm
noncomputable def t9 (S:Sn) (x:Str):Option Nat:=if dX x&&(decide (S.nm.lookup x=some .local)||decide (S.nm.lookup x=some .cell))then og S.N x else none
def noO':Ev->Option Out:=λ_=>none
def b7:Expr->Option Str
 |.Name x _=>some x
 |_=>none
noncomputable def exR (n:Nat) (S:Sn):Option Expr->Ev->Option Out
 |none=>λ_=>some (.rt (.deep,.non))
 |some e=>match b7 e with
  |some x=>(match bK S x with|some i=>λY=>(fZ Y i).bind λs=>some (.rt s)|none=>fj (ev n S e))
  |none=>fj (ev n S e)
noncomputable def evN (n:Nat) (S:Sn) (e:Expr):Ev->Option (Sl×Ev):=match(b7 e).bind (bK S)with
 |some j=>orO (mvE j) (ev n S e)
 |none=>ev n S e
noncomputable def Bd (n:Nat) (S:Sn) (t e:Expr):Ev->Option Out:=match t with
 |.Name x _=>(match t9 S x with|some i=>aj i (evN n S e)|none=>noO')
 |.Subscript o k _=>(match b7 o with
  |some x=>if x8 k&&!fg e then(match bK S x with|some i=>xi i (rd n S k) (rd n S e)|none=>noO')else noO'
  |none=>noO')
 |_=>noO'
noncomputable def exA (n:Nat) (S:Sn) (ts:List Expr) (e:Expr):Ev->Option Out:=match ts with
 |[t]=>Bd n S t e
 |_=>noO'
noncomputable def Be:Expr->Option (Str×Expr)
 |.Call f as ks cp=>(match f,as,ks with
  |.Attribute o m ap,[e],[]=>if m=("pop":Str)/\aE e=true/\(ap.endLine==cp.line)=true then(b7 o).bind λy=>some (y,e)else none
  |_,_,_=>none)
 |_=>none
noncomputable def D9 (n:Nat) (S:Sn) (i:Nat) (m:Str) (e:Expr):Ev->Option Out:=if m=("append":Str)then(match Be e with
 |some (y,a)=>(match bK S y with|some j=>gpF i j (rd n S a)|none=>noO')
 |none=>iM i (ev n S e))else if m=("extend":Str)then xb i (rd n S e)else if m=("pop":Str)then xI i (rd n S e)else noO'
noncomputable def exM (n:Nat) (S:Sn) (o:Expr) (m:Str) (e:Expr):Ev->Option Out:=match o with
 |.Name x _=>(match bK S x with|some i=>D9 n S i m e|none=>noO')
 |.Subscript o k _=>(match(b7 o).bind (bK S)with|some i=>if m=("append":Str)/\x8 k=true then vb i (rd n S k) (rd n S e)else noO'|none=>noO')
 |_=>noO'
noncomputable def ua:Expr->Option (Expr×Str×Pos×Expr×Pos)
 |.Call f as ks cpos=>(match f,as,ks with
  |.Attribute o m apos,[e],[]=>some (o,m,apos,e,cpos)
  |_,_,_=>none)
 |_=>none
noncomputable def Bf:Expr->Option (Expr×Pos×Expr×Expr×Pos)
 |.Call f as ks cpos=>(match f,as,ks with
  |.Attribute o m apos,[a,b],[]=>if m=("insert":Str)then some (o,apos,a,b,cpos)else none
  |_,_,_=>none)
 |_=>none
noncomputable def Bg:Expr->Option (Str×Pos×Pos)
 |.Call f as ks cpos=>(match f,as,ks with
  |.Attribute o m apos,[],[]=>if m=("reverse":Str)then(b7 o).bind λx=>some (x,apos,cpos)else none
  |_,_,_=>none)
 |_=>none
noncomputable def exI (n:Nat) (S:Sn) (o a b:Expr):Ev->Option Out:=match b7 o with
 |some x=>(match bK S x with|some i=>xH i (rd n S a) (rd n S b)|none=>noO')
 |none=>noO'
noncomputable def exV (n:Nat) (S:Sn) (e:Expr):Ev->Option Out:=match Bf e with
 |some (o,apos,a,b,cpos)=>if aE a&&aE b&&(apos.endLine==cpos.line)then exI n S o a b else noO'
 |none=>(match Bg e with
  |some (x,apos,cpos)=>if apos.endLine==cpos.line then(match bK S x with|some i=>vj i|none=>noO')else noO'
  |none=>if fg e then noO' else nj (rd n S e))
noncomputable def exX (n:Nat) (S:Sn) (e:Expr):Ev->Option Out:=match ua e with
 |some (o,m,apos,a,cpos)=>if aE a&&(apos.endLine==cpos.line)then exM n S o m a else noO'
 |none=>exV n S e
def GX:Expr->Bool
 |.Subscript _ _ _=>true
 |_=>false
def GY:List Stmt->Bool
 |st::_=>(match st with
  |.Assign ts _ _=>ts.all GX
  |_=>false)
 |_=>false
noncomputable def yh (S:Sn) (iter:Expr) (body:List Stmt):Option Nat:=if GY body then(b7 iter).bind (bK S)else none
mutual
noncomputable def ex:Nat->Sn->Stmt->Ev->Option Out
 |0=>λ_ _=>noO'
 |n+1=>λS st=>match st with
  |.Return v _=>exR n S v
  |.Assign ts e _=>exA n S ts e
  |.If c a b _=>ifS (rq n S c) (exs n S a) (exs n S b)
  |.For tg iter body els _=>if els.isEmpty&&f9 iter then(match yh S iter body with
   |some i=>xK i (tgE S n tg) (exs n S body)
   |none=>orO (u5 (rj n S tg iter) (tgE S n tg) (exs n S body)) (DD (rj n S tg iter) (tgE S n tg) (exs n S body)))else noO'
  |.While c body els _=>if els.isEmpty then wlF (rq n S c) (exs n S body)else noO'
  |.Expr e _=>exX n S e
  |_=>noO'
noncomputable def exs:Nat->Sn->List Stmt->Ev->Option Out
 |0=>λ_ _=>noO'
 |n+1=>λS st=>match st with
  |[]=>λY=>some (.nx Y)
  |s::r=>ab (ex n S s) (exs n S r)
end
section
variable {X:Cx} {S:Sn}
theorem rX (o:TnOk X S) (h:t9 S x=some i):dX x=true/\Loc X.env.scope x/\X.N[i]?=some x:=by
 unfold t9 at h;split at h
 ·rename_i c;rw[and_eq_true,Bool.or_eq_true]at c;refine⟨c.1,?_,by rw[o.s.N];exact eG h⟩;rcases c.2 with c|c
  ·exact .inl (o.s.loc _ (of_decide_eq_true c))
  ·exact .inr (o.s.cel _ (of_decide_eq_true c))
 ·cases h
theorem swaps_name (e:Expr) (x:Str) (p:Pos) (l:Nat) (env:Env):swapsWith e (some (.Name x p)) l env=pure false\/(swapsWith e (some (.Name x p)) l env=pure true/\env.scope.names.lookup x=some .local):=by
 have key:∀ (b1 b2 b3:Bool),(pure (b1&&(env.kindOf x==some .local)&&b2&&b3):Sem Bool)=pure false\/((pure (b1&&(env.kindOf x==some .local)&&b2&&b3):Sem Bool)=pure true/\env.scope.names.lookup x=some .local):=λb1 b2 b3=>by
  cases hk:(env.kindOf x==some NameKind.local)with
  |false=>left;cases b1<;>rfl
  |true=>
   have hl:env.scope.names.lookup x=some .local:=by
    have hk':env.kindOf x=some .local:=by simpa using hk
    exact hk'
   cases b1<;>cases b2<;>cases b3<;>first|exact .inl rfl|exact .inr ⟨rfl,hl⟩
 cases e<;>first
  |exact .inl rfl
  |exact key _ _ _
theorem br {st}:PR X st noO':=wS
theorem cR (h:dX x=true):(x==("__debug__":Str))=false/\(x==("__classdict__":Str))=false:=⟨(dh h).1,(dh h).2.1⟩
theorem Ea (h:x8 ik=true):∀v,assign (.Subscript (.Name x px) ik spos) env v=(do
  let ov<-holding [v] (eval (.Name x px) env)
  let iv<-holding [v,ov] (eval ik env)
  standAt spos
  holding [v,ov,iv] (setItem ov iv v)
  release [v,ov,iv] []):=by
 intro v
 cases ik<;>first|rfl|cases h
theorem Bh (h:fg e=false):swapsWithSole [t] e l env=pure false:=by
 show swapsWith e (some t) l env=pure false;exact hU h _ _ _
theorem Bi:swappedStores [.Subscript (.Name x px) ik spos] e env=pure none:=by
 cases e<;>rfl
theorem aV (h:b7 e=some x):∃p,e=.Name x p:=by
 cases e<;>first|(cases h;exact⟨_,rfl⟩)|cases h
theorem rY (h:ua e=some (o,m,ap,a,cp)):e=.Call (.Attribute o m ap) [a] [] cp:=by
 unfold ua at h;split at h
 ·split at h
  ·cases h;rfl
  ·cases h
 ·cases h
theorem GZ (n:Nat) (o:TnOk X S) (v:Option Expr):PR X (.Return v pos) (exR n S v):=by
 cases v with
 |none=>exact AB
 |some e=>
  unfold exR;dsimp only;cases h:b7 e with
  |none=>exact wT (vo n o.s _)
  |some x=>
   obtain⟨p,rfl⟩:=aV h;dsimp only;cases hi:bK S x with
   |none=>exact wT (vo n o.s _)
   |some i=>
    obtain⟨h1,h2,h3,_⟩:=aR o.s hi;obtain⟨a,b⟩:=cR h1;exact rp i h3 h2 a b
theorem s_evN (n:Nat) (o:SnOk X S) (e:Expr):PEv X e (evN n S e):=by
 unfold evN;split
 ·rename_i j h;obtain⟨x,h1,h2⟩:=bind_some h;obtain⟨p,rfl⟩:=aV h1;obtain⟨g1,g2,g3,_⟩:=aR o h2;exact tK (GQ g3 g2 (cR g1).1 (cR g1).2) (vo n o _)
 ·exact vo n o e
theorem Eb (n:Nat) (o:TnOk X S) (t e:Expr):PR X (.Assign [t] e pos) (Bd n S t e):=by
 have P:=λe=>((sound n).rd X S o.s e).p;cases t with
 |Name x p=>
  unfold Bd;dsimp only;cases hi:t9 S x with
  |none=>exact br
  |some i=>
   obtain⟨h1,h2,h3⟩:=rX o hi;exact DB (by rw[o.s.N];exact o.s.nd) h3 h2 (s_evN n o.s _) (.inl (o.fn _)) (swaps_name _ _ _ _ _)
 |Subscript ob k p=>
  unfold Bd;dsimp only;cases hn:b7 ob with
  |none=>exact br
  |some x=>
   obtain⟨px,rfl⟩:=aV hn;dsimp only;split
   ·rename_i h;rw[and_eq_true]at h;cases hi:bK S x with
    |none=>exact br
    |some i=>
     obtain⟨h1,h2,h3,_⟩:=aR o.s hi;obtain⟨a,b⟩:=cR h1;exact(DP i (P _) (P _) h3 h2 a b (Ea h.1) (Bh (by simpa using h.2)) Bi (asg1 rfl))
   ·exact br
 |_=>exact br
theorem Ha (n:Nat) (o:TnOk X S) (ts:List Expr) (e:Expr):PR X (.Assign ts e pos) (exA n S ts e):=by
 cases ts with
 |nil=>exact br
 |cons t r=>cases r with
  |nil=>exact Eb n o t e
  |cons _ _=>exact br
theorem vp (h:Be e=some (y,a)):∃p ap cp,e=.Call (.Attribute (.Name y p) "pop" ap) [a] [] cp/\aE a=true/\(ap.endLine==cp.line)=true:=by
 unfold Be at h;split at h
 ·split at h
  ·split at h
   ·rename_i c;obtain⟨rfl,c1,c2⟩:=c;obtain⟨x,h1,h2⟩:=bind_some h;obtain⟨p,rfl⟩:=aV h1;cases h2;exact⟨_,_,_,rfl,c1,c2⟩
   ·cases h
  ·cases h
 ·cases h
theorem Ec (n:Nat) (o:TnOk X S) (m:Str) (e:Expr) (hi:bK S x=some i) (hs:aE e=true) (hl:(ap.endLine==cp.line)=true):PR X (.Expr (.Call (.Attribute (.Name x px) m ap) [e] [] cp) pos) (D9 n S i m e):=by
 obtain⟨h1,h2,h3,_⟩:=aR o.s hi;obtain⟨a,b⟩:=cR h1;unfold D9;split
 ·rename_i hm;subst hm;cases hp:Be e with
  |some z=>
   obtain⟨y,a2⟩:=z;obtain⟨p2,ap2,cp2,rfl,hs2,hl2⟩:=vp hp;dsimp only;cases hj:bK S y with
   |none=>exact br
   |some j=>
    obtain⟨f1,f2,f3,_⟩:=aR o.s hj;exact GN i j ((sound n).rd X S o.s _).p h3 h2 a b f3 f2 (cR f1).1 (cR f1).2 (star1 hs2) hl hl2
  |none=>
  ·exact u6 i (vo n o.s _) h3 h2 a b (star1 hs) hl
 ·split
  ·rename_i hm;subst hm;exact u9 i ((sound n).rd X S o.s e).p h3 h2 a b (star1 hs) hl
  ·split
   ·rename_i hm;subst hm;exact D0 i ((sound n).rd X S o.s e).p h3 h2 a b (star1 hs) hl
   ·exact br
theorem Hb (n:Nat) (o:TnOk X S) (ob:Expr) (m:Str) (e:Expr) (hs:aE e=true) (hl:(ap.endLine==cp.line)=true):PR X (.Expr (.Call (.Attribute ob m ap) [e] [] cp) pos) (exM n S ob m e):=by
 cases ob with
 |Name x p=>
  unfold exM;dsimp only;cases hi:bK S x with
  |none=>exact br
  |some i=>exact Ec n o m e hi hs hl
 |Subscript ob k p=>
  unfold exM;dsimp only;cases hn:(b7 ob).bind (bK S)with
  |none=>exact br
  |some i=>
   obtain⟨x,e1,hi⟩:=bind_some hn;obtain⟨px,rfl⟩:=aV e1;dsimp only;split
   ·rename_i h;obtain⟨rfl,hk⟩:=h;obtain⟨h1,h2,h3,_⟩:=aR o.s hi;obtain⟨a,b⟩:=cR h1;exact DM i ((sound n).rd X S o.s _).p ((sound n).rd X S o.s _).p h3 h2 a b (noSl_ok hk) (star1 hs) hl
   ·exact br
 |_=>exact br
theorem vq (h:Bf e=some (o,ap,a,b,cp)):e=.Call (.Attribute o "insert" ap) [a,b] [] cp:=by
 unfold Bf at h;split at h
 ·split at h
  ·obtain⟨h1,h2⟩:=ay h;cases h2;rw[h1]
  ·cases h
 ·cases h
theorem vt (h:Bg e=some (x,ap,cp)):∃p,e=.Call (.Attribute (.Name x p) "reverse" ap) [] [] cp:=by
 unfold Bg at h;split at h
 ·split at h
  ·split at h
   ·rename_i hm;obtain⟨y,h1,h2⟩:=bind_some h;cases h2;obtain⟨p,rfl⟩:=aV h1;rw[hm];exact⟨p,rfl⟩
   ·cases h
  ·cases h
 ·cases h
theorem Hc (n:Nat) (o:TnOk X S) (ob a b:Expr) (ha:aE a=true) (hb:aE b=true) (hl:(ap.endLine==cp.line)=true):PR X (.Expr (.Call (.Attribute ob "insert" ap) [a,b] [] cp) pos) (exI n S ob a b):=by
 have P:=λe=>((sound n).rd X S o.s e).p;unfold exI;cases hn:b7 ob with
 |none=>exact br
 |some x=>
  obtain⟨p,rfl⟩:=aV hn;dsimp only;cases hi:bK S x with
  |none=>exact br
  |some i=>
   obtain⟨h1,h2,h3,_⟩:=aR o.s hi;obtain⟨c,d⟩:=cR h1;exact vi i (P _) (P _) h3 h2 c d (star1 ha) (star1 hb) hl
theorem Hd (n:Nat) (o:TnOk X S) (e:Expr):PR X (.Expr e pos) (exV n S e):=by
 unfold exV;cases hm:Bf e with
 |some z=>
  obtain⟨ob,ap,a,b,cp⟩:=z;have:=vq hm;subst this;dsimp only;split
  ·rename_i h;rw[and_eq_true,and_eq_true]at h;exact Hc n o ob a b h.1.1 h.1.2 h.2
  ·exact br
 |none=>
  dsimp only;cases hv:Bg e with
  |some z=>
   obtain⟨x,ap,cp⟩:=z;obtain⟨p,this⟩:=vt hv;subst this;dsimp only;split
   ·rename_i h;cases hi:bK S x with
    |none=>exact br
    |some i=>
     obtain⟨h1,h2,h3,_⟩:=aR o.s hi;obtain⟨c,d⟩:=cR h1;exact rQ i h3 h2 c d h
   ·exact br
  |none=>
  dsimp only;split
  ·exact br
  ·rename_i h;exact AC ((sound n).rd X S o.s e).p (hU (by simpa using h) _ _ _)
theorem He (n:Nat) (o:TnOk X S) (e:Expr):PR X (.Expr e pos) (exX n S e):=by
 unfold exX;cases hm:ua e with
 |some z=>
  obtain⟨ob,m,ap,a,cp⟩:=z;have:=rY hm;subst this;dsimp only;split
  ·rename_i h;rw[and_eq_true]at h;exact Hb n o ob m a h.1 h.2
  ·exact br
 |none=>exact Hd n o e
theorem Ed:∀n,(∀X S,TnOk X S->∀st,PR X st (ex n S st))/\∀X S,TnOk X S->∀st,PRs X st (exs n S st):=by
 intro n;induction n with
 |zero=>exact⟨λX S o e=>br,λX S o es=>wR⟩
 |succ n ih=>
  refine⟨λX S o st=>?_,λX S o st=>?_⟩
  ·have pass:PassesOwn (model X.prog X.w) X.A X.env X.xe:=by rw[o.nox];exact PassesOwn.never
   unfold ex;cases st with
   |Return v p=>exact GZ n o v
   |Assign ts e p=>exact Ha n o ts e
   |If c a b p=>exact Gx ((sound n).rq X S o.s _) (ih.2 X S o _) (ih.2 X S o _)
   |For tg iter body els p=>
    dsimp only;split
    ·rename_i h;rw[and_eq_true]at h;cases els with
     |nil=>
      have F1:=DE (pos:=p) pass o.s.calm ((sound n).rj X S o.s tg iter) ((xX o.s o.fn n).1 _) (ih.2 X S o body) (dA h.2);have F2:=AF (pos:=p) pass o.s.calm ((sound n).rj X S o.s tg iter) ((xX o.s o.fn n).1 _) (ih.2 X S o body) (dA h.2);cases hk:yh S iter body with
      |some i=>
       unfold yh at hk;split at hk
       ·obtain⟨x,h1,hi⟩:=bind_some hk;obtain⟨px,rfl⟩:=aV h1;obtain⟨g1,g2,g3,_⟩:=aR o.s hi;obtain⟨c,d⟩:=cR g1;exact A5 pass o.s.calm g3 g2 c d ((xX o.s o.fn n).1 _) (ih.2 X S o body) (dA h.2)
       ·cases hk
      |none=>
      exact B6 F1 F2
     |cons _ _=>cases h.1
    ·exact br
   |While c body els p=>
    dsimp only;split
    ·rename_i h;cases els with
     |nil=>exact xJ pass ((sound n).rq X S o.s _) (ih.2 X S o body)
     |cons _ _=>cases h
    ·exact br
   |Expr e p=>exact He n o e
   |_=>exact br
  ·unfold exs;cases st with
   |nil=>exact DA
   |cons s r=>exact AA (ih.1 X S o _) (ih.2 X S o _)
end
def Hf:Expr->Option (Str×Str)
 |.Attribute o f _=>(b7 o).bind λy=>some (y,f)
 |_=>none
noncomputable def Ee:Stmt->Option (Str×Str×Expr)
 |.Assign ts e _=>(match ts with
  |[t]=>(Hf t).bind λz=>some (z.1,z.2,e)
  |_=>none)
 |_=>none
theorem vv (h:Ee s=some (y,f,e)):∃p q r,s=.Assign [.Attribute (.Name y p) f q] e r:=by
 unfold Ee at h;split at h
 ·split at h
  ·rename_i t;obtain⟨z,h1,h⟩:=bind_some h;cases h;unfold Hf at h1;split at h1
   ·obtain⟨x,h2,h1⟩:=bind_some h1;obtain⟨p,rfl⟩:=aV h2;cases h1;exact⟨_,_,_,rfl⟩
   ·cases h1
  ·cases h
 ·cases h
noncomputable def inx:Nat->Sn->Addr->(Str->Bool)->List Stmt->InF
 |0=>λ_ _ _ _=>λ_ _=>none
 |n+1=>λS x fl st=>match st with
  |[]=>AK
  |s::r=>(match Ee s with
   |some (y,f,e)=>if fl f&&!fg e then(match bK S y with|some i=>AL x i f (ev n S e) (inx n S x fl r)|none=>λ_ _=>none)elseλ_ _=>none
   |none=>stI (ex n S s) (inx n S x fl r))
theorem Hg (o:TnOk X S) (c:Cls X.K Ca) (hfl:∀f,fl f=true->NoAttr X.K Ca f):∀n st,PIn X Ca x st (inx n S x fl st):=by
 have no:∀st,PIn X Ca x st (λ_ _=>none):=λst B O Y dx fd pins s σ H D I ⟨_,_,_,_,q,_⟩=>by cases q
 intro n;induction n with
 |zero=>exactλst=>no st
 |succ n ih=>
  intro st;unfold inx;split
  ·exact DG
  ·split
   ·rename_i y f e hs;obtain⟨_,_,_,rfl⟩:=vv hs;split
    ·rename_i h;rw[and_eq_true]at h;split
     ·rename_i i hi;obtain⟨h1,h2,h3,_⟩:=aR o.s hi;obtain⟨a,b⟩:=cR h1;exact DH i (vo n o.s _) (ih _) h3 h2 a b (hU (by simpa using h.2) _ _ _) c (hfl _ h.1)
     ·exact no _
    ·exact no _
   ·exact AM ((Ed n).1 X S o _) (ih _)
mutual
noncomputable def tgA (S:Sn) (i0:Nat):Nat->Expr->D->Ev->Option Ev
 |0=>λ_ _ _=>none
 |n+1=>λe=>match e with
  |.Name x _=>(match ot S x with|some i=>if i=i0 thenλ_ _=>none else eNm i|none=>λ_ _=>none)
  |.Tuple ts _ _=>if ts.all aE then eTp ts.length (Hh S i0 n ts)elseλ_ _=>none
  |_=>λ_ _=>none
noncomputable def Hh (S:Sn) (i0:Nat):Nat->List Expr->List D->Ev->Option Ev
 |0=>λ_ _ _=>none
 |n+1=>λes=>match es with
  |[]=>wU
  |t::ts=>if aE t then nk (tgA S i0 n t) (Hh S i0 n ts)elseλ_ _=>none
end
section
variable {X:Cx} {S:Sn} {i0:Nat}
end
structure AlOk (K:Frag) (B:Bs) (O:Addr->Bool) (σ:St) (H:Hp) (Y:Ev) (i:Nat) (d:D):Prop where
 E:EnvOk K B O σ H Y
 no:Y[i]?=some none
 al:∃v,σ[i]?=some (some v)/\Is K H d v
section
variable {K:Frag} {B:Bs} {O:Addr->Bool} {σ:St} {H H':Hp} {Y:Ev} {i j:Nat} {d:D}
end
section
variable {X:Cx} {e tg iter:Expr} {pos:Pos} {i j:Nat} {x y:Str} {d:D} {ds:List D} {B:Bs} {O:Addr->Bool} {Y:Ev}
end
section
variable {X:Cx} {S:Sn}
end
section
variable {X:Cx} {e2 c:Expr} {i v:Nat} {x y:Str}
end
section
variable {X:Cx} {S:Sn}
end
def cI (i:Int):Vv->Option D:=λ_=>some (.int i)
def cB (b:Bool):Vv->Option D:=λ_=>some (.bl b)
def cN:Vv->Option D:=λ_=>some .non
def cS (x:Str):Vv->Option D:=λ_=>some (.str x)
def cD (d:D):Vv->Option D:=λ_=>some d
def cT (n:String):Vv->Option D:=λ_=>some (.ty n)
def va (i:Nat):Vv->Option D:=λY=>fY Y i
def ngF (a:Vv->Option D):Vv->Option D:=λY=>(a Y).bind wK
def aB:Vv->Option (List D):=λ_=>some []
def tpF (xs:Vv->Option (List D)):Vv->Option D:=λY=>(bJ (xs Y)).bind λds=>some (.tup ds)
def flF (fl:Str->Str->Bool) (m:Str) (o:Vv->Option D):Vv->Option D:=λY=>(o Y).bind (rD fl m)
noncomputable def slF (a:Vv->Option D) (lo hi:Vv->Option (Option Int)):Vv->Option D:=orO (uY a lo hi) λY=>(nY a lo hi Y).map D.lst
def noP:Vv->Option (Option Int):=λ_=>some none
def lsF (L:Vv->Option (List D)):Vv->Option D:=λY=>(L Y).map D.lst
noncomputable def clF (f:List D->Option Sl) (xs:Vv->Option (List D)):Vv->Option D:=orO (λY=>(xs Y).bind λds=>gz (f ds)) (lsF noV)
noncomputable def biF (f:List D->Option D) (xs:Vv->Option (List D)):Vv->Option D:=orO (λY=>(xs Y).bind f) (lsF noV)
def noD:List D->Option D:=λ_=>none
noncomputable def mkF (C:Str) (g:List D->Option (List (Str×D))) (xs:Vv->Option (List D)):Vv->Option D:=orO (λY=>(xs Y).bind λds=>AI C (g ds)) (lsF noV)
noncomputable def meF (o:Vv->Option D) (xs:Vv->Option (List D)) (mt:MT) (k:Nat) (m:Str):Vv->Option D:=λY=>gz (GA o xs mt k m Y)
def dpF (xs:Vv->Option (List D)):Vv->Option (List D):=λY=>bJ (xs Y)
def l1F (xs:Vv->Option (List D)):Vv->Option (List D):=λY=>(xs Y).bind m6
def liF (xs:Vv->Option (List D)):Vv->Option D:=orO (λY=>(xs Y).bind noD) (lsF (l1F xs))
def s1F (xs:Vv->Option (List D)):Vv->Option (List D):=λY=>(xs Y).bind bT
def lrF (xs:Vv->Option (List D)):Vv->Option (List D):=λY=>(xs Y).bind lrD
def enF (xs:Vv->Option (List D)):Vv->Option (List D):=λY=>(xs Y).bind tO
noncomputable def liG (xs:Vv->Option (List D)) (L:Vv->Option (List D)):Vv->Option D:=orO (λY=>(xs Y).bind noD) (lsF L)
def trF (a:Vv->Option D):Vv->Option Bool:=λY=>(a Y).bind uQ
def tQ:Vv->Option Bool:=λ_=>some true
def jX (sp:Vv->Option (List D)) (R:Vv->Option D):Vv->Option (List D):=orO sp λY=>(R Y).bind seqD
def r1F (xs:Vv->Option (List D)):Vv->Option (List D):=λY=>(xs Y).bind kP
noncomputable def frX (R:Vv->Option D) (L:Vv->Option (List D)) (Sp:Vv->Option D):Vv->Option D:=orO (λY=>lfO (R Y)) (orO (λY=>mo (L Y)) Sp)
noncomputable def evX (R:Vv->Option D) (L:Vv->Option (List D)) (Sp:Vv->Option D):Ev->Option (Sl×Ev):=orO (n5 (frX R L Sp)) (orO (tI L) (orO (Az R) (Dy R)))
def fLs (F:Vv->Option (List D)):Vv->Option D:=λY=>(bJ (F Y)).bind λds=>some (.lst ds)
def fTp (F:Vv->Option (List D)):Vv->Option D:=λY=>(bJ (F Y)).bind λds=>some (.tup ds)
noncomputable def fCo (ks:List Nat) (J:Vv->Option (List D)) (tg:D->Vv->Option Vv) (t:Vv->Option Bool) (F:Vv->Option D):Vv->Option D:=λY=>(aq ks J tg t F Y).bind λds=>some (.lst ds)
def fCl (f:List D->Option Sl) (xs:Vv->Option (List D)):Vv->Option D:=λY=>(xs Y).bind λds=>pO (f ds)
def fNo (xs:Vv->Option (List D)):Vv->Option D:=λY=>(xs Y).bind noD
def rtN (i:Nat):Ev->Option Out:=λY=>(fZ Y i).bind λs=>some (.rt s)
def nxE:Ev->Option Out:=λY=>some (.nx Y)
noncomputable def frF (J:Vv->Option (List D)) (tg:D->Ev->Option Ev) (F:Ev->Option Out):Ev->Option Out:=orO (u5 J tg F) (DD J tg F)
def dcN:Vv->Option D:=λ_=>some (.dct [] [])
def dcO (n:Int) (b:Bool):Vv->Option D:=λ_=>some (.dct [.inl n] [.bl b])
def evM (j:Nat) (g:Ev->Option (Sl×Ev)):Ev->Option (Sl×Ev):=orO (mvE j) g
def p9 (i:Nat) (k:Vv->Option D) (g:Ev->Option (Sl×Ev)) (R:Vv->Option D):Ev->Option Out:=xi i k R
noncomputable def aX (K:Frag) (x:Str) (st:Stmt):Prop:=∃ (f:Addr) (oc:Value) (od an:Option Addr) (osl:Array (Option Value)) (kV doc pm cdv ct:Value),nsIn K mainGlobals x=some (some (.ref f))/\
 K.lookup f=some ⟨oc,od,.func (PySem.W.fnOf x x (bN st) (aJ st) (am st) .none kV doc pm an cdv ct),osl⟩/\PySem.W.codeIn K cdv x=true/\PySem.W.keepIn K (.ref f)=true
noncomputable def Bj (K:Frag) (C m qual:Str) (st:Stmt):Prop:=∃ (Ca f:Addr) (oc:Value) (od an:Option Addr) (osl:Array (Option Value)) (kV doc pm cdv ct:Value),nsIn K mainGlobals C=some (some (.ref Ca))/\findIn K (.ref Ca) m=some (some (.ref f))/\PySem.W.isFn K (.ref f)=true/\
 K.lookup f=some ⟨oc,od,.func (PySem.W.fnOf m qual (bN st) (aJ st) (am st) .none kV doc pm an cdv ct),osl⟩/\PySem.W.codeIn K cdv qual=true/\PySem.W.keepIn K (.ref f)=true
structure TCls (K:Frag) (C:Str):Prop where
 ex:∃Ca:Addr,nsIn K mainGlobals C=some (some (.ref Ca))/\Cls K Ca/\PySem.W.makesIn K Ca=true/\PySem.W.keepIn K (.ref Ca)=true
section
variable {P:Program} {w:World} {K:Frag} {mg:Str->Option Value} {base:Heap}
abbrev vx (N:List Str) (st:Stmt) (k:Nat) (G:Gb):Sn:=⟨N,(am st).names,k,G⟩
theorem yi {G:Gb} (g:GbOk P w K mg base G) {N ps:List Str} {st:Stmt} {k:Nat} {qual:Str} {f:Addr} (S:FnScope N ps (am st)) (cdv:Value) (A:Around) (outer:List Env) (s:Shared) (H:Hp) (E:XK) (hr:Room k (A.deeper (envOfC qual (am st) s.heap.objs.size f cdv))):
  TnOk (nM CX0 P w K mg base N qual (am st) f cdv A outer s H E).nox (vx N st k G) where
 s:=⟨g,rfl,S.nd,rfl,hr,λ_ h=>h,λ_ h=>h,λ_ h=>.inr h,λ_ h=>h⟩
 fn:=λ_=>rfl
 nox:=rfl
 nm:=rfl
noncomputable def dfn (n k:Nat) (N ps:List Str) (st:Stmt) (G:Gb):List D->Option Sl:=aQ ps.length N.length (exs n (vx N st k G) (aJ st))
noncomputable def dY (x:Str) (st:Stmt) (ps:List Str):Prop:=∀ (qual:Str) (kV doc pm:Value) (an:Option Addr) (cdv ct:Value) (us:List Value),us.length=ps.length->bindArgs (PySem.W.fnOf x qual (bN st) (aJ st) (am st) .none kV doc pm an cdv ct) ⟨us,[]⟩=pure (ps.zip us)
theorem Hi (g:GbOk P w K mg base G) (KX:K.In h) (hN:h.Ns mainGlobals mg) {st} (n k:Nat) (S:FnScope N ps (am st)) (b:dY x st ps) (t:aX K x st):Df P w K mg base x (k+1) (dfn n k N ps st G):=by
 obtain⟨f,oc,od,an,osl,kV,doc,pm,cdv,ct,h1,h2,h3,h4⟩:=t;have Fn:=qV (st:=st) h2 h3 h4;refine⟨f,_,ps,PySem.W.mg_of KX hN h1,h4,Fn.binds λkV doc pm an cdv ct us hl=>b x kV doc pm an cdv ct us hl,Gz Fn S λcdv A outer s H E hr=>?_⟩;exact(Ed n).2 _ _ (yi g S cdv A outer s H E hr) _
theorem Hj (g:GbOk P w K mg base G) (KX:K.In h) (hN:h.Ns mainGlobals mg) {st} (n k:Nat) (fl:Str->Bool) (S:FnScope N ps (am st)) (b:dY "__init__" st ps) (c:TCls K C) (t:Bj K C "__init__" qual st) (hfl:∀f,fl f=true->∀Ca,nsIn K mainGlobals C=some (some (.ref Ca))->NoAttr K Ca f) (hg:∀ds r,gg ds=some r->∀y,wV ps.length N.length (λy=>inx n (vx N st k G) y fl (aJ st)) y ds=some r):Mkf P w K mg base C (k+1) gg:=by
 obtain⟨Ca,f,oc,od,an,osl,kV,doc,pm,cdv,ct,h0,hf,hi,h2,h3,h4⟩:=t;obtain⟨Cb,e0,cl,mk,kp⟩:=c.ex;rw[h0]at e0;cases e0;have Fn:=qV (st:=st) h2 h3 h4;refine⟨Ca,f,_,ps,PySem.W.mg_of KX hN h0,h0,⟨mk,hf,hi,kp⟩,Fn.binds λkV doc pm an cdv ct us hl=>b qual kV doc pm an cdv ct us hl,Jg (I:=λy=>inx n (vx N st k G) y fl (aJ st)) Fn S hg λy cdv A outer s H E hr=>?_⟩;exact Hg (yi g S cdv A outer s H E hr) cl (λf q=>hfl f q Ca h0) n _
end
noncomputable def spL (K:Frag):Sp:=λvs H Q _=>∃ (a:Addr) (ns:List Int),vs=[.ref a]/\SqL K H a (ns.map V.int)/\ns.length<=63/\∀H',Q (.bl true) H'
theorem ub {K}:∀ (ns:List Int),IsL K H (ns.map D.int) (ns.map V.int)
 |[]=>rfl
 |n::ns=>⟨_,_,rfl,rfl,ub ns⟩
theorem Ef {K} (F:FnOk P w K mg base CX0 k a fd ps (spC K f)) (hf:∀ns:List Int,ns.length<=63->gz (f [.lst (ns.map D.int)])=some (.bl true)):
  FnOk P w K mg base CX0 k a fd ps (spL K):=F.imp λvs H Q E ⟨b,ns,e,h,hl,q⟩=>by
 obtain⟨⟨c,d⟩,e1,e2⟩:=bind_some (hf ns hl)
 cases e2
 refine⟨noO,[.lst (ns.map D.int)],_,λ_ h=>(nomatch h),?_,e1,λv H' r=>?_⟩
 ·rw[e,hG];exact⟨_,[],rfl,⟨b,_,rfl,h,ub ns⟩,rfl⟩
 ·obtain⟨O',A,_,_,_,_,_,h6⟩:=r;have hv:v=.bl true:=by
   cases c with
   |sh=>exact h6.2
   |top=>obtain⟨_,_,_,z,_⟩:=h6;cases z
   |deep=>exact h6.1
  rw[hv];exact q H'
theorem walkL {l:PySem.W.OpenLaw} {K:Params->Frag} (hn:l.most=some 63) (hdf:d.params.defaults=[]) (hr:Room k callerA) (hY:∀ (w:World) (h:Heap),YP w h->(K w.params).In h) (F:∀ (w:World) (mg:Str->Option Value) (fa:Addr) (h:Heap),(K w.params).In h->h.Ns mainGlobals mg->mg d.name=some (.ref fa)->
   ∃fd:FuncData,(∀ (s:Shared) (u:Value),BindsTo s fd ⟨[u],[]⟩ [("script",u)])/\∀base:Heap,(K w.params).In base->base.Ns mainGlobals mg->FnOk l.prog w (K w.params) mg base CX0 k fa fd ["script"] (spL (K w.params))):
  PySem.W.WalkO q loose XP YP l.row.toRowW d [] (λf vs=>PySem.call f vs):=
 L2.walk_of (n:=63) (k:=k) (x:="script") (CX:=λ_=>CX0) (sp:=λw=>spL (K w.params)) hn (by decide) hdf hr hY F (λ_ _ a ns hl _ hS=>⟨a,ns,rfl,hS,hl,λ_=>rfl⟩) λ_ _ _ _ _ z=>z
noncomputable def addF (G:Gb) (x:Str) (k:Nat) (f:List D->Option Sl):Gb:={G with fn:=λy=>if y=x then some (k,f)else G.fn y}
noncomputable def addI (G:Gb) (C:Str) (k:Nat) (g:List D->Option (List (Str×D))):Gb:={G with ini:=λy=>if y=C then some (k,g)else G.ini y}
section
variable {P:Program} {w:World} {K:Frag} {mg:Str->Option Value} {base:Heap} {G:Gb}
theorem GbOk.addF (g:GbOk P w K mg base G) (d:Df P w K mg base x k f):GbOk P w K mg base (addF G x k f):=⟨λy j h e=>by
 have e':(if y=x then some (k,f)else G.fn y)=some (j,h):=e;split at e'
 ·rename_i z;cases e';rw[z];exact d
 ·exact g.fn y j h e',g.cn,g.no,g.fl,g.mt,g.ini⟩
theorem GbOk.addI (g:GbOk P w K mg base G) (d:Mkf P w K mg base C k gg):GbOk P w K mg base (addI G C k gg):=⟨g.fn,g.cn,g.no,g.fl,g.mt,λy j h e=>by
 have e':(if y=C then some (k,gg)else G.ini y)=some (j,h):=e;split at e'
 ·rename_i z;cases e';rw[z];exact d
 ·exact g.ini y j h e'⟩
end
theorem evX_lf {R L Sp} (h:R (vw Y)=some d) (f:lfD d=true):evX R L Sp Y=some ((.deep,d),Y):=by
 unfold evX orO n5 frX orO lfO;simp[h,f]
theorem evX_lfs {R L Sp} (h:R (vw Y)=some d) (f:lfD d=false) (hl:L (vw Y)=some ds) (fl:lfL ds=true):evX R L Sp Y=some ((.deep,.lst ds),Y):=by
 unfold evX orO n5 frX orO lfO mo;simp[h,hl,f,fl]
theorem evX_call {R L Sp} (h:R (vw Y)=some d) (f:lfD d=false) (hl:L (vw Y)=none) (hs:Sp (vw Y)=some e):evX R L Sp Y=some ((.deep,e),Y):=by
 unfold evX orO n5 frX orO lfO mo;simp[h,hl,f,hs]
theorem yj {R L Sp} (h:R (vw Y)=some d) (f:lfD d=false) (hl:L (vw Y)=none) (hs:Sp (vw Y)=none) (hl2:L (shv Y)=none) (h2:R (shv Y)=some d):evX R L Sp Y=some ((.sh,d),Y):=by
 unfold evX orO n5 tI Az frX orO lfO mo;simp[h,hl,hl2,h2,f,hs]
theorem ai (h:F Y=some (.nx Y')):ab F G Y=G Y':=by unfold ab;rw[h];rfl
theorem aD (h:F Y=some (.rt s)):ab F G Y=some (.rt s):=by unfold ab;rw[h];rfl
theorem aW (h:g Y=some (s,Y')):aj i g Y=some (.nx (Y'.set i (some s))):=by unfold aj;rw[h];rfl
theorem bt (h:g Y=some (s,Y')):fj g Y=some (.rt s):=by unfold fj;rw[h];rfl
theorem jB (h:c (vw Y)=some true):ifS c F G Y=F Y:=by unfold ifS;rw[h];rfl
theorem dJ (h:c (vw Y)=some false):ifS c F G Y=G Y:=by unfold ifS;rw[h];rfl
theorem lB {step}:∀ (ds:List D) (I:Nat->Ev->Prop) (Y:Ev),I 0 Y->(∀ (i:Nat) (d:D) (Y:Ev),ds[i]?=some d->I i Y->∃Y',step d Y=some (.nx Y')/\I (i+1) Y')->∃Y',hW step ds Y=some (.nx Y')/\I ds.length Y'
 |[],I,Y,h0,_=>⟨Y,rfl,h0⟩
 |d::ds,I,Y,h0,hs=>by
  obtain⟨Y1,e1,i1⟩:=hs 0 d Y rfl h0;obtain⟨Y2,e2,i2⟩:=lB ds (λi=>I (i+1)) Y1 i1 λi d' Y' h hi=>hs (i+1) d' Y' (by simpa using h) hi;refine⟨Y2,?_,i2⟩;unfold hW;rw[e1];exact e2
theorem fT (I:Nat->Ev->Prop) (hJ:J (shv Y)=some ds) (h0:I 0 Y) (hs:∀ (i:Nat) (d:D) (Y:Ev),ds[i]?=some d->I i Y->∃Y',(tg d Y).bind F=some (.nx Y')/\I (i+1) Y'):
  ∃Y',frF J tg F Y=some (.nx Y')/\I ds.length Y':=by
 obtain⟨Y',e,i⟩:=lB (step:=mq tg F) ds I Y h0 hs
 refine⟨Y',?_,i⟩
 unfold frF orO u5
 rw[hJ]
 simp only[Option.bind_some]
 rw[e]
section
variable {Y:Vv} {a b c:Vv->Option D} {xs:Vv->Option (List D)} {i:Int} {n:Nat}
@[simp] theorem cI_a:cI i Y=some (.int i):=rfl
@[simp] theorem KQ {b}:cB b Y=some (.bl b):=rfl
@[simp] theorem Jy:cN Y=some .non:=rfl
@[simp] theorem cS_a {x:Str}:cS x Y=some (.str x):=rfl
@[simp] theorem Jz:cD d Y=some d:=rfl
@[simp] theorem JA {n}:cT n Y=some (.ty n):=rfl
@[simp] theorem KC:(noV Y:Option α)=none:=rfl
@[simp] theorem va_a:va n Y=fY Y n:=rfl
@[simp] theorem shAt_0 {d:Option D} {r:Vv}:fY (d::r) 0=d:=by cases d<;>rfl
@[simp] theorem shAt_s {d:Option D} {r:Vv} {n:Nat}:fY (d::r) (n+1)=fY r n:=by unfold fY;simp
@[simp] theorem shAt_1 {d e:Option D} {r:Vv}:fY (d::e::r) 1=e:=by cases e<;>rfl
@[simp] theorem bin2_a {g}:aa g a b Y=(a Y).bind λx=>(b Y).bind λy=>g x y:=rfl
@[simp] theorem yk:ngF a Y=(a Y).bind wK:=rfl
@[simp] theorem nilX_a:aB Y=some []:=rfl
@[simp] theorem consX_a:ae a xs Y=(a Y).bind λd=>(xs Y).bind λr=>some (d::r):=rfl
@[simp] theorem Cj:tpF xs Y=(bJ (xs Y)).bind λds=>some (.tup ds):=rfl
@[simp] theorem Hk:flF fl m a Y=(a Y).bind (rD fl m):=rfl
@[simp] theorem KD:noP Y=some none:=rfl
@[simp] theorem Im:cZ a Y=(a Y).bind λd=>(intD d).bind λi=>some (some i):=rfl
@[simp] theorem lsF_a {L}:lsF L Y=(L Y).map D.lst:=rfl
theorem lC {f g:α->Option β} (h:g x=none):orO f g x=f x:=by
 unfold orO;cases f x<;>simp[h]
@[simp] theorem clF_a {f}:clF f xs Y=(xs Y).bind λds=>gz (f ds):=lC rfl
@[simp] theorem biF_a {f}:biF f xs Y=(xs Y).bind f:=lC rfl
@[simp] theorem Ck:mkF C g xs Y=(xs Y).bind λds=>AI C (g ds):=lC rfl
@[simp] theorem KE {mt k m}:meF a xs mt k m Y=gz ((a Y).bind λd=>(xs Y).bind λas=>B7 mt k m d as):=rfl
@[simp] theorem dpF_a:dpF xs Y=bJ (xs Y):=rfl
@[simp] theorem KF:l1F xs Y=(xs Y).bind m6:=rfl
@[simp] theorem liF_a:liF xs Y=((xs Y).bind m6).map D.lst:=by
 unfold liF orO;have:((xs Y).bind noD)=none:=by cases xs Y<;>rfl
 simp[this]
@[simp] theorem trF_a:trF a Y=(a Y).bind uQ:=rfl
@[simp] theorem tQ_a:tQ Y=some true:=rfl
@[simp] theorem fCl_a {f}:fCl f xs Y=(xs Y).bind λds=>pO (f ds):=rfl
@[simp] theorem KG:fNo xs Y=none:=by unfold fNo noD;cases xs Y<;>rfl
@[simp] theorem Hl:fLs F Y=(bJ (F Y)).bind λds=>some (.lst ds):=rfl
@[simp] theorem KH:fTp F Y=(bJ (F Y)).bind λds=>some (.tup ds):=rfl
@[simp] theorem db:jX noV R Y=(R Y).bind seqD:=rfl
theorem fA (h:(xs Y).bind kP=some ds):jX (r1F xs) R Y=some ds:=by
 unfold jX orO r1F;simp[h]
@[simp] theorem ym:eU a b Y=(a Y).bind λx=>x.asB.bind λc=>if c=true then b Y else some (.bl false):=rfl
@[simp] theorem KI:orF a b Y=(a Y).bind λx=>x.asB.bind λc=>if c=true then some (.bl true)else b Y:=rfl
@[simp] theorem JB:wz a Y=(a Y).bind λx=>x.asB.bind λc=>some (.bl (!c)):=rfl
@[simp] theorem andQ_a {p q:Vv->Option Bool}:uP p q Y=(p Y).bind λc=>if c=true then q Y else some false:=rfl
@[simp] theorem qh:orQ p q Y=(p Y).bind λc=>if c=true then some true else q Y:=rfl
@[simp] theorem notQ_a {p:Vv->Option Bool}:bP p Y=(p Y).map (!·):=rfl
@[simp] theorem lE:ifF p a b Y=(p Y).bind λc=>if c=true then a Y else b Y:=rfl
@[simp] theorem testB_a:au a Y=(a Y).bind D.asB:=rfl
@[simp] theorem Hn:bI g g' a b c Y=(a Y).bind λx=>(b Y).bind λy=>(g x y).bind λz=>z.asB.bind λk=>if k=true then(c Y).bind λw=>g' y w else some (.bl false):=rfl
end
@[simp] theorem asB_bl (b:Bool):D.asB (.bl b)=some b:=rfl
@[simp] theorem valO_some (s:Sl):gz (some s)=some s.2:=rfl
@[simp] theorem rZ (d:D):pO (some (.deep,d))=some d:=rfl
@[simp] theorem addD_ii (i j:Int):aC (.int i) (.int j)=some (.int (i+j)):=rfl
@[simp] theorem subD_ii (i j:Int):cQ (.int i) (.int j)=some (.int (i-j)):=rfl
@[simp] theorem JC (i j:Int):ltD (.int i) (.int j)=some (.bl (decide (i<j))):=rfl
@[simp] theorem Eg (i j:Int):leD (.int i) (.int j)=some (.bl (decide (i<=j))):=rfl
@[simp] theorem r6 (i j:Int):gtD (.int i) (.int j)=some (.bl (decide (j<i))):=rfl
@[simp] theorem JD (i j:Int):geD (.int i) (.int j)=some (.bl (decide (j<=i))):=rfl
@[simp] theorem r9 (i:Int):wK (.int i)=some (.int (-i)):=rfl
@[simp] theorem Eh (i:Int):intD (.int i)=some i:=rfl
@[simp] theorem iV (ds:List D):seqD (.lst ds)=some ds:=rfl
@[simp] theorem JE (ds:List D):seqD (.tup ds)=some ds:=rfl
@[simp] theorem b8 (d:D):cq [d]=(seqD d).bind λds=>some (.int ds.length):=rfl
@[simp] theorem Io (d:D):m6 [d]=seqD d:=rfl
@[simp] theorem Ho (d:D):bQ [d]=(seqD d).bind λds=>some (.tup ds):=rfl
@[simp] theorem ou (i j:Int):gw [.int i,.int j]=some (.int (if j>i then j else i)):=rfl
@[simp] theorem yn (i j:Int):re [.int i,.int j]=some (.int (if j<i then j else i)):=rfl
@[simp] theorem truD_bl (b:Bool):uQ (.bl b)=some b:=rfl
theorem uc (h:CMul i j):aL (.int i) (.int j)=some (.int (i*j)):=by unfold aL;simp[h]
theorem se (h:-18446744073709551616<i) (h2:i<18446744073709551616):aL (.int i) (.int j)=some (.int (i*j)):=uc (.inl ⟨by omega,by omega⟩)
theorem Ei (h:-18446744073709551616<j) (h2:j<18446744073709551616):aL (.int i) (.int j)=some (.int (i*j)):=uc (.inr ⟨by omega,by omega⟩)
theorem yo (h:0<j) (h2:j.natAbs.log2<9000):jL (.int i) (.int j)=some (.int (i/j)):=by unfold jL;exact if_pos ⟨h,h2⟩
theorem j9 (h:0<j) (h2:j<1073741824):jL (.int i) (.int j)=some (.int (i/j)):=yo h (Nat.lt_trans ((Nat.log2_lt (by omega)).mpr (show j.natAbs<2^30 by omega)) (by decide))
theorem dL (h:0<j):bj (.int i) (.int j)=some (.int (i%j)):=by unfold bj;simp[h]
@[simp] theorem ox (i:Int):lfD (.int i)=true:=rfl
@[simp] theorem JF (b:Bool):lfD (.bl b)=true:=rfl
@[simp] theorem Ip (x:Str):lfD (.str x)=true:=rfl
@[simp] theorem Iq:lfD .non=true:=rfl
@[simp] theorem Bk (ds:List D):lfD (.lst ds)=false:=rfl
@[simp] theorem Ir (ds:List D):lfD (.tup ds)=lfL ds:=rfl
@[simp] theorem Iu:lfL []=true:=rfl
@[simp] theorem yp (d:D) (ds:List D):lfL (d::ds)=(lfD d&&lfL ds):=rfl
theorem bB:∀ {ds:List D},(∀d∈ds,lfD d=true)->lfL ds=true
 |[],_=>rfl
 |d::ds,h=>by simp[h d mem_cons_self,bB λe he=>h e (mem_cons_of_mem _ he)]
@[simp] theorem Fm:bJ none=none:=rfl
theorem dM (h:ds.length<big):bJ (some ds)=some ds:=by unfold bJ;simp[h]
@[simp] theorem JG:bJ (some [])=some []:=dM (by decide)
@[simp] theorem capL_1 (a:D):bJ (some [a])=some [a]:=dM (show 1<big by decide)
@[simp] theorem capL_2 (a b:D):bJ (some [a,b])=some [a,b]:=dM (show 2<big by decide)
@[simp] theorem JH (a b c d e:D):bJ (some [a,b,c,d,e])=some [a,b,c,d,e]:=dM (show 5<big by decide)
@[simp] theorem yq (a b c d e f g h:D):bJ (some [a,b,c,d,e,f,g,h])=some [a,b,c,d,e,f,g,h]:=dM (show 8<big by decide)
@[simp] theorem Hq (d c:D):eZ [d,c]=(bV d).bind λT=>(kO c).bind λns=>some (.bl (ns.any (isI T))):=rfl
@[simp] theorem Iv:kO (.ty "int")=some ["int"]:=by rfl
@[simp] theorem Hr:kO (.ty "bool")=some ["bool"]:=by rfl
@[simp] theorem Iw:kO (.ty "str")=some ["str"]:=by rfl
@[simp] theorem Hs:kO (.ty "list")=some ["list"]:=by rfl
@[simp] theorem Fo:kO (.ty "tuple")=some ["tuple"]:=by rfl
@[simp] theorem Ej:kO (.tup [.ty "list",.ty "tuple"])=some ["list","tuple"]:=by rfl
@[simp] theorem JI (i:Int):bV (.int i)=some "int":=rfl
@[simp] theorem KJ (i:Bool):bV (.bl i)=some "bool":=rfl
@[simp] theorem JJ (i:Str):bV (.str i)=some "str":=rfl
@[simp] theorem JK (i:List D):bV (.tup i)=some "tuple":=rfl
@[simp] theorem JL (i:List D):bV (.lst i)=some "list":=rfl
@[simp] theorem JM:isI "int" "int"=true:=by decide
@[simp] theorem JN:isI "int" "bool"=false:=by decide
@[simp] theorem JO:isI "bool" "bool"=true:=by decide
@[simp] theorem JP:isI "bool" "int"=true:=by decide
@[simp] theorem JQ:isI "tuple" "list"=false:=by decide
@[simp] theorem JR:isI "tuple" "tuple"=true:=by decide
@[simp] theorem Ek:isI "list" "list"=true:=by decide
@[simp] theorem JS:isI "list" "tuple"=false:=by decide
@[simp] theorem JT:isI "str" "str"=true:=by decide
@[simp] theorem jC (neg:Bool) (i j:Int):aN neg (.int i) (.int j)=some (.bl (if neg then !decide (i=j)else decide (i=j))):=by
 unfold aN jw;have:(aT (.int i)&&aT (.int j)&&ph (toV (.int i)) (toV (.int j)))=true:=rfl;rw[if_pos this];have:decide (toV (.int i)=toV (.int j))=decide (i=j):=by
  show decide (V.int i=V.int j)=_;by_cases h:i=j<;>simp[h]
 rw[this];rfl
@[simp] theorem yt (neg:Bool) (i j:Str):aN neg (.str i) (.str j)=some (.bl (if neg then !decide (i=j)else decide (i=j))):=by
 unfold aN jw;have:(aT (.str i)&&aT (.str j)&&ph (toV (.str i)) (toV (.str j)))=true:=rfl;rw[if_pos this];have:decide (toV (.str i)=toV (.str j))=decide (i=j):=by
  show decide (V.str i=V.str j)=_;by_cases h:i=j<;>simp[h]
 rw[this];rfl
@[simp] theorem eq_bb (neg:Bool) (i j:Bool):aN neg (.bl i) (.bl j)=some (.bl (if neg then !decide (i=j)else decide (i=j))):=by
 unfold aN jw;have:(aT (.bl i)&&aT (.bl j)&&ph (toV (.bl i)) (toV (.bl j)))=true:=rfl;rw[if_pos this];have:decide (toV (.bl i)=toV (.bl j))=decide (i=j):=by
  show decide (V.bl i=V.bl j)=_;by_cases h:i=j<;>simp[h]
 rw[this];rfl
@[simp] theorem Bl (ds:List D) (i:Int):ixD (.lst ds) (.int i)=atI ds i:=rfl
@[simp] theorem KR (ds:List D) (i:Int):ixD (.tup ds) (.int i)=atI ds i:=rfl
theorem lF {d:D} (h:0<=i) (h2:ds[i.toNat]?=some d):atI ds i=some d:=by
 have hl:=(List.getElem?_eq_some_iff.mp h2).1;unfold atI ixN;rw[if_pos h,if_pos (by omega)];exact h2
@[simp] theorem Cm (d:D) (ds:List D):atI (d::ds) 0=some d:=lF (by omega) rfl
@[simp] theorem Ht (c d:D) (ds:List D):atI (c::d::ds) 1=some d:=lF (by omega) rfl
@[simp] theorem vw_nil:vw []=[]:=rfl
@[simp] theorem vw_some (s:Sl) (Y:Ev):vw (some s::Y)=some s.2::vw Y:=rfl
@[simp] theorem vw_none (Y:Ev):vw (none::Y)=none::vw Y:=rfl
@[simp] theorem ig:shv []=[]:=rfl
@[simp] theorem iW (d:D) (Y:Ev):shv (some (.sh,d)::Y)=some d::shv Y:=rfl
@[simp] theorem fB (Y:Ev):shv (none::Y)=none::shv Y:=rfl
@[simp] theorem ii (d:D) (Y:Ev):shv (some (.deep,d)::Y)=(if lfD d=true then some d else none)::shv Y:=rfl
@[simp] theorem Ix (d:D) (Y:Ev):shv (some (.top,d)::Y)=(if lfD d=true then some d else none)::shv Y:=rfl
@[simp] theorem wipe_nil {α:Type} (σ:List (Option α)):c8 [] σ=σ:=rfl
@[simp] theorem wipe_cons {α:Type} (k:Nat) (ks:List Nat) (σ:List (Option α)):c8 (k::ks) σ=c8 ks (σ.set k none):=rfl
@[simp] theorem gNm_a (i:Nat) (d:D) (Y:Vv):gNm i d Y=some (Y.set i (some d)):=rfl
@[simp] theorem KL (n:Nat) (gs) (ds:List D) (Y:Vv):gTp n gs (.tup ds) Y=if ds.length=n then gs ds Y else none:=rfl
@[simp] theorem Hu (g gs) (d:D) (ds:List D) (Y:Vv):bf g gs (d::ds) Y=(g d Y).bind λY1=>gs ds Y1:=rfl
@[simp] theorem Iy (Y:Vv):e8 [] Y=some Y:=rfl
@[simp] theorem KM (i:Nat) (d:D) (Y:Ev):eNm i d Y=some (Y.set i (some (.sh,d))):=rfl
@[simp] theorem KN (n:Nat) (gs) (ds:List D) (Y:Ev):eTp n gs (.tup ds) Y=if ds.length=n then gs ds Y else none:=rfl
@[simp] theorem Iz (g gs) (d:D) (ds:List D) (Y:Ev):nk g gs (d::ds) Y=(g d Y).bind λY1=>gs ds Y1:=rfl
@[simp] theorem JU (Y:Ev):wU [] Y=some Y:=rfl
@[simp] theorem stepF_a (g ft fe) (Y:Vv) (d:D):gZ g ft fe Y d=(g d Y).bind λY1=>(ft Y1).bind λc=>if c=true then(fe Y1).bind λy=>some (some y)else some none:=rfl
theorem ao (hl:ds.length=n) (h:F (az m ds)=some (.rt s)):aQ n m F ds=some s:=by
 unfold aQ;rw[if_pos hl,h];rfl
theorem yu (hl:ds.length=n) (h:F (az m ds)=some (.nx Y)):aQ n m F ds=some (.deep,.non):=by
 unfold aQ;rw[if_pos hl,h];rfl
@[simp] theorem KO (Y:Ev):nxE Y=some (.nx Y):=rfl
theorem lG {β:Type} {step} {mk out}:∀ (xs:List β),(∀x∈xs,step (mk x)=some (some (out x)))->jv step (xs.map mk)=some (xs.map out)
 |[],_=>rfl
 |x::xs,h=>by
  rw[List.map_cons];unfold jv;rw[h x mem_cons_self,lG xs λe he=>h e (mem_cons_of_mem _ he)];rfl
theorem aM {β:Type} {Y:Vv} {xs:List β} {mk out} (hJ:J Y=some (xs.map mk)) (h:∀x∈xs,gZ g ft fe (c8 ks Y) (mk x)=some (some (out x))) (hl:xs.length<big):aq ks J g ft fe Y=some (xs.map out):=by
 unfold aq;rw[hJ];simp only[Option.bind_some];rw[lG xs h];unfold bJ;simp[hl]
theorem gc {β:Type} {step} {mk out} {p:β->Bool}:∀ (xs:List β),(∀x∈xs,step (mk x)=some (if p x then some (out x)else none))->jv step (xs.map mk)=some ((xs.filter p).map out)
 |[],_=>rfl
 |x::xs,h=>by
  rw[List.map_cons];unfold jv;rw[h x mem_cons_self,gc xs λe he=>h e (mem_cons_of_mem _ he)];cases hp:p x<;>simp[hp]
theorem gd {β:Type} {Y:Vv} {xs:List β} {mk out} {p:β->Bool} (hJ:J Y=some (xs.map mk)) (h:∀x∈xs,gZ g ft fe (c8 ks Y) (mk x)=some (if p x then some (out x)else none)) (hl:xs.length<big):aq ks J g ft fe Y=some ((xs.filter p).map out):=by
 unfold aq;rw[hJ];simp only[Option.bind_some];rw[gc xs h];unfold bJ;have:((xs.filter p).map out).length<big:=by
  rw[length_map];exact lt_of_le_of_lt (List.length_filter_le _ _) hl
 simp only[Option.bind_some];rw[if_pos this]
theorem lH:∀bs:List Bool,uS (bs.map D.bl)=some bs
 |[]=>rfl
 |b::bs=>by
  rw[List.map_cons];unfold uS;rw[lH bs];rfl
theorem lI {β:Type} (xs:List β) (p:β->Bool):q0 [.lst (xs.map λx=>.bl (p x))]=some (.bl (xs.all p)):=by
 have e:xs.map (λx=>D.bl (p x))=(xs.map p).map D.bl:=by rw[List.map_map];rfl
 rw[e];unfold q0 un1;simp only[eV,Option.bind_some];rw[lH];simp[List.all_map];rfl
theorem Hv:(2:Int)^62=4611686018427387904:=by decide+kernel
theorem El (h:-1000000<j) (h2:j<1000000):inR j:=by
 unfold inR;rw[Hv];exact⟨by omega,by omega⟩
theorem Bm (hj:inR j):kP [.int j]=some (jM 0 j.toNat):=by
 unfold kP un1;simp only[Eh,Option.bind_some];rw[if_pos hj]
theorem ud {n:Nat} (h:n<1000000):inR (n:Int):=El (by omega) (by omega)
theorem yw:jM 0 n=(List.range n).map λ(i:Nat)=>D.int (i:Int):=by
 unfold jM;apply List.map_congr_left;intro i _;rw[Int.zero_add]
theorem bv {n:Nat} (h:n<1000000):kP [.int (n:Int)]=some ((List.range n).map λ(i:Nat)=>D.int (i:Int)):=by
 rw[Bm (ud h),Int.toNat_natCast,yw]
theorem Bn {β:Type} {xs:List β} {mk:β->D} {i:Int} (h:0<=i) (h2:i<xs.length):atI (xs.map mk) i=some (mk (xs[i.toNat]'(by omega))):=lF h (by
 have:i.toNat<xs.length:=by omega
 simp[this])
theorem bL {β:Type} {xs:List β} {mk:β->D} {i:Nat} {x} (h:xs[i]?=some x):atI (xs.map mk) (i:Int)=some (mk x):=by
 have hl:=(List.getElem?_eq_some_iff.mp h).1;exact lF (by omega) (by simp[h])
theorem di (h0:eE Y i=some (c0,ds0)) (h:g Y=some ((.deep,d),Y')) (ho:eE Y' i=some (.deep,ds)) (hl:ds.length+1<big):iM i g Y=some (.nx (Y'.set i (some (.deep,.lst (ds++[d]))))):=by
 unfold iM;rw[h0];simp only[Option.bind_some,h,ho];rw[if_pos hl];rfl
noncomputable def jD:Ev->Option Out:=(ab (fj (evX (eU (biF eZ (ae (va 0) (ae (cT "int") aB))) (eU (wz (biF eZ (ae (va 0) (ae (cT "bool") aB)))) (bI leD leD (va 1) (va 0) (va 2)))) noV noV)) nxE)
noncomputable def jE (aZ:List D->Option Sl):Ev->Option Out:=(ab (ifS (orQ (bP (trF (biF eZ (ae (va 0) (ae (cT "tuple") aB))))) (au (aa (aN true) (biF cq (ae (va 0) aB)) (cI 2)))) (ab (fj (evX (cB false) noV noV)) nxE) nxE) (ab (fj (evX (eU (aa inD (aa ixD (va 0) (cI 0)) (cD (.tup [(.str "queue"),(.str "pile")]))) (clF aZ (ae (aa ixD (va 0) (cI 1)) (ae (cI 0) (ae (cD (.int 9)) aB))))) noV noV)) nxE))
noncomputable def nw (cM:List D->Option Sl):Ev->Option Out:=(ab (ifS (orQ (bP (trF (biF eZ (ae (va 0) (ae (tpF (ae (cT "list") (ae (cT "tuple") aB))) aB))))) (bP (au (bI leD leD (cI 1) (biF cq (ae (va 0) aB)) (cD (.int 6)))))) (ab (fj (evX (cB false) noV noV)) nxE) nxE) (ab (fj (evX (biF q0 (ae (lsF (aq [1] (jX noV (va 0)) (gNm 1) tQ (clF cM (ae (va 1) aB)))) aB)) noV (fNo (ae (lsF (aq [1] (jX noV (va 0)) (gNm 1) tQ (clF cM (ae (va 1) aB)))) aB)))) nxE))
noncomputable def lJ:Ev->Option Out:=(ab (aj 1 (evX (cI 1) noV noV)) (ab (frF (jX noV (va 0)) (eNm 2) (ab (aj 1 (evX (aa aL (va 1) (biF cq (ae (va 2) aB))) noV noV)) nxE)) (ab (rtN 1) nxE)))
noncomputable def ij (cy:List D->Option Sl) (fW:List D->Option Sl):Ev->Option Out:=(ab (ifS (orQ (bP (trF (biF eZ (ae (va 0) (ae (tpF (ae (cT "list") (ae (cT "tuple") aB))) aB))))) (au (aa gtD (biF cq (ae (va 0) aB)) (cD (.int 6))))) (ab (fj (evX (cB false) noV noV)) nxE) nxE) (ab (fj (evX (eU (biF q0 (ae (lsF (aq [1] (jX noV (va 0)) (gNm 1) tQ (clF fW (ae (va 1) aB)))) aB)) (aa leD (clF cy (ae (va 0) aB)) (cD (.int 1000)))) noV noV)) nxE))
noncomputable def lK (bh:List D->Option Sl) (y:Addr):InF:=(stI (ifS (bP (trF (clF bh (ae (va 1) aB)))) (ab noO' nxE) nxE) (AL y 0 "passes" (evX (biF bQ (ae (lsF (aq [2] (jX noV (va 1)) (gNm 2) tQ (biF bQ (ae (va 2) aB)))) aB)) noV (fNo (ae (lsF (aq [2] (jX noV (va 1)) (gNm 2) tQ (biF bQ (ae (va 2) aB)))) aB))) AK))
noncomputable def yx:Ev->Option Out:=(ab (fj (evX (ifF (au (aa (aN false) (va 0) (cS "queue"))) (va 2) (aa cQ (aa cQ (va 1) (cI 1)) (va 2))) noV noV)) nxE)
abbrev Pk:=Bool×Int
def kd (q:Bool):Str:=if q then"queue"else"pile"
def pkD (p:Pk):D:=.tup [.str (kd p.1),.int p.2]
def okK (p:Pk):Bool:=decide (0<=p.2)&&decide (p.2<=9)
def sq (w:Bool) (ds:List D):D:=if w then .lst ds else .tup ds
@[simp] theorem Bo (w:Bool) (ds:List D):seqD (sq w ds)=some ds:=by cases w<;>rfl
@[simp] theorem JV (w:Bool) (ds:List D):eZ [sq w ds,.tup [.ty "list",.ty "tuple"]]=some (.bl true):=by cases w<;>simp[sq]
theorem Hw (p:Pk):lfD (pkD p)=true:=rfl
theorem Em (ps:List Pk):lfL (ps.map pkD)=true:=bB λd hd=>by
 obtain⟨p,_,rfl⟩:=List.mem_map.mp hd;exact Hw p
def tpD (ps:List Pk):D:=.tup (ps.map pkD)
theorem yy (ps:List Pk):lfD (tpD ps)=true:=Em ps
theorem yz (pss:List (List Pk)):lfL (pss.map tpD)=true:=bB λd hd=>by
 obtain⟨p,_,rfl⟩:=List.mem_map.mp hd;exact yy p
noncomputable def im (f:List D->Option Sl):Prop:=∀v a b:Int,f [.int v,.int a,.int b]=some (.deep,.bl (decide (a<=v)&&decide (v<=b)))
theorem yA:im (aQ 3 3 jD):=λv a b=>by
 refine ao rfl ?_;unfold jD;refine aD (bt (evX_lf ?_ rfl));simp[az];by_cases h:a<=v<;>simp[h]
theorem Hx (q:Bool):inD (.str (kd q)) (.tup [.str "queue",.str "pile"])=some (.bl true):=by
 cases q<;>kernel_rfl
def oy (f:List D->Option Sl):Prop:=∀p:Pk,f [pkD p]=some (.deep,.bl (okK p))
theorem yB (hw:im w):oy (aQ 1 1 (jE w)):=λp=>by
 refine ao rfl ?_;unfold jE pkD;refine(ai (Y':=az 1 [.tup [.str (kd p.1),.int p.2]]) ?_).trans ?_
 ·refine(dJ ?_).trans rfl;simp[az]
 ·refine aD (bt (evX_lf ?_ rfl));simp[az,hw p.2 0 9,Hx,okK]
def okP (ps:List Pk):Bool:=decide (1<=ps.length)&&decide (ps.length<=6)&&ps.all okK
noncomputable def yC (f:List D->Option Sl):Prop:=∀ (w:Bool) (ps:List Pk),ps.length<1000->f [sq w (ps.map pkD)]=some (.deep,.bl (okP ps))
theorem Eo (hg:oy g):yC (aQ 1 2 (nw g)):=λw ps hlen=>by
 refine ao rfl ?_;unfold nw okP;have hc:bI leD leD (cI 1) (biF cq (ae (va 0) aB)) (cD (.int 6)) [some (sq w (ps.map pkD)),none]=some (.bl (decide (1<=ps.length)&&decide (ps.length<=6))):=by
  simp;by_cases h:1<=ps.length
  ·have h':(1:Int)<=(ps.length:Int):=by omega
   simp[h,h'];omega
  ·have h':¬ (1:Int)<=(ps.length:Int):=by omega
   simp[h,h']
 have hi:biF eZ (ae (va 0) (ae (tpF (ae (cT "list") (ae (cT "tuple") aB))) aB)) [some (sq w (ps.map pkD)),none]=some (.bl true):=by
  cases w<;>simp[sq]
 have hT:orQ (bP (trF (biF eZ (ae (va 0) (ae (tpF (ae (cT "list") (ae (cT "tuple") aB))) aB))))) (bP (au (bI leD leD (cI 1) (biF cq (ae (va 0) aB)) (cD (.int 6))))) [some (sq w (ps.map pkD)),none]=some (!(decide (1<=ps.length)&&decide (ps.length<=6))):=by
  rw[qh,notQ_a,trF_a,hi,notQ_a,testB_a,hc];rfl
 cases hb:(decide (1<=ps.length)&&decide (ps.length<=6))with
 |false=>
  rw[hb]at hT;exact aD ((jB hT).trans (aD (bt (evX_lf (d:=.bl false) rfl rfl))))
 |true=>
  rw[hb]at hT;refine(ai (Y':=az 2 [sq w (ps.map pkD)]) ((dJ hT).trans rfl)).trans ?_;refine aD (bt (evX_lf ?_ rfl));have hm:aq [1] (jX noV (va 0)) (gNm 1) tQ (clF g (ae (va 1) aB)) [some (sq w (ps.map pkD)),none]=some (ps.map λp=>.bl (okK p)):=by
   refine aM (mk:=pkD) (by simp) (λp _=>?_) (Nat.lt_trans hlen (by decide));simp[hg p]
  simp[az,hm,lI]
abbrev Ps:=List (Bool×List Pk)
def paD (p:Bool×List Pk):D:=sq p.1 (p.2.map pkD)
def prod:List (List Pk)->Nat
 |[]=>1
 |p::r=>p.length*prod r
theorem dN:∀a b:List (List Pk),prod (a++b)=prod a*prod b
 |[],b=>by simp[prod]
 |p::a,b=>by simp only[List.cons_append,prod,dN a b,Nat.mul_assoc]
theorem bC (a:List (List Pk)) (p:List Pk):prod (a++[p])=prod a*p.length:=by rw[dN];simp[prod]
theorem lt_big (h:-1000000<j) (h2:j<1000000):-18446744073709551616<j/\j<18446744073709551616:=⟨Int.lt_trans (by decide) h,Int.lt_trans h2 (by decide)⟩
theorem de (h:-1000000<j) (h2:j<1000000):aL (.int i) (.int j)=some (.int (i*j)):=Ei (lt_big h h2).1 (lt_big h h2).2
theorem yD {n:Nat} (h:n<1000):aL (.int i) (.int (n:Int))=some (.int (i*n)):=de (by omega) (by omega)
noncomputable def lL (f:List D->Option Sl):Prop:=∀ (w:Bool) (pss:Ps),(∀p∈pss,p.2.length<1000)->f [sq w (pss.map paD)]=some (.deep,.int (prod (pss.map (·.2)):Nat))
theorem si (A:D) (n:Nat) (p:Bool×List Pk) (hL:p.2.length<1000):
 evX (aa aL (va 1) (biF cq (ae (va 2) aB))) noV noV [some (.sh,A),some (.deep,.int n),some (.sh,paD p)]=some ((.deep,.int (n*p.2.length:Nat)),[some (.sh,A),some (.deep,.int n),some (.sh,paD p)]):=by
 refine evX_lf ?_ rfl
 have e1:(seqD (paD p))=some (p.2.map pkD):=Bo _ _
 simp[e1]
 rw[yD hL]
theorem vy (pss:Ps) (i:Nat) (p) (hp:pss[i]?=some p):prod ((pss.take (i+1)).map (·.2))=prod ((pss.take i).map (·.2))*p.2.length:=by
 rw[List.take_succ,hp];simp[bC]
theorem Bp:lL (aQ 1 3 lJ):=λw pss hl=>by
 refine ao rfl ?_;unfold lJ;refine(ai (aW (evX_lf (d:=.int 1) rfl rfl))).trans ?_;have L:=fT (J:=jX noV (va 0)) (tg:=eNm 2) (F:=ab (aj 1 (evX (aa aL (va 1) (biF cq (ae (va 2) aB))) noV noV)) nxE) (ds:=pss.map paD)
  (Y:=(az 3 [sq w (pss.map paD)]).set 1 (some (.deep,.int 1)))
  (λi Y=>∃o,Y=[some (.sh,sq w (pss.map paD)),some (.deep,.int (prod ((pss.take i).map (·.2)):Nat)),o]) (by simp[az]) ⟨none,rfl⟩ (by
   rintro i d Y hd ⟨o,rfl⟩;rw[getElem?_map]at hd;cases hp:pss[i]? with
   |none=>rw[hp]at hd;cases hd
   |some p=>
    rw[hp]at hd;cases hd;have hL:p.2.length<1000:=hl p (mem_of_getElem? hp);rw[vy pss i p hp];exact⟨_,ai (aW (si (sq w (pss.map paD)) _ p hL)),⟨some (.sh,paD p),rfl⟩⟩)
 obtain⟨Y',e,o,rfl⟩:=L;refine(ai e).trans (aD ?_);simp[rtN,fZ]
structure Valid (pss:List (List Pk)):Prop where
 len:pss.length<=6
 each:∀p∈pss,okP p=true
 codes:prod pss<=1000
theorem Valid.p (h:Valid pss) {p:List Pk} (hp:p∈pss):1<=p.length/\p.length<=6/\∀k∈p,0<=k.2/\k.2<=9:=by
 have:=h.each p hp;unfold okP at this;rw[and_eq_true,and_eq_true,List.all_eq_true]at this;refine⟨of_decide_eq_true this.1.1,of_decide_eq_true this.1.2,λk hk=>?_⟩;have hk:=this.2 k hk;unfold okK at hk;rw[and_eq_true]at hk;exact⟨of_decide_eq_true hk.1,of_decide_eq_true hk.2⟩
noncomputable def Ep (f:List D->Option Sl):Prop:=∀ (w:Bool) (pss:Ps),Valid (pss.map (·.2))->f [sq w (pss.map paD)]=some (.deep,.bl true)
theorem Hy (hg:yC g) (hc:lL c):Ep (aQ 1 2 (ij c g)):=λw pss hv=>by
 refine ao rfl ?_;unfold ij;have hl6:pss.length<=6:=by have:=hv.len;simpa using this
 have hp:∀p∈pss,p.2.length<1000:=λp hp=>by
  have:=(hv.p (List.mem_map_of_mem hp)).2.1;omega
 have hT:orQ (bP (trF (biF eZ (ae (va 0) (ae (tpF (ae (cT "list") (ae (cT "tuple") aB))) aB))))) (au (aa gtD (biF cq (ae (va 0) aB)) (cD (.int 6)))) [some (sq w (pss.map paD)),none]=some false:=by
  have h:¬ (6:Int)<(pss.length:Int):=by omega
  cases w<;>simp[sq,h]
 refine(ai (Y':=az 2 [sq w (pss.map paD)]) ((dJ hT).trans rfl)).trans ?_;refine aD (bt (evX_lf ?_ rfl));have hm:aq [1] (jX noV (va 0)) (gNm 1) tQ (clF g (ae (va 1) aB)) [some (sq w (pss.map paD)),none]=some (pss.map λp=>.bl (okP p.2)):=by
  refine aM (mk:=paD) (by simp) (λp hpm=>?_) (lt_of_le_of_lt hl6 (by decide));have:=hg p.1 p.2 (hp p hpm);simp[paD,this]
 have ha:pss.all (λp=>okP p.2)=true:=by
  rw[List.all_eq_true];intro p hpm;exact hv.each _ (List.mem_map_of_mem hpm)
 have h1000:((prod (pss.map (·.2)):Nat):Int)<=1000:=by have:=hv.codes;omega
 simp[az,hm,lI,ha,hc w pss hp];exact h1000
def aK (ps:List (List Pk)):D:=.tup (ps.map tpD)
def af (ps:List (List Pk)):D:=.obj "Mill" ["passes"] [aK ps]
noncomputable def gM (fa:List D->Option Sl):List D->Option (List (Str×D))
 |[d]=>(gz (fa [d])).bind λb=>(uQ b).bind λt=>if t=true then(aq [2] (jX noV (va 1)) (gNm 2) tQ (biF bQ (ae (va 2) aB)) [none,some d,none]).bind λl=>some [(("passes":Str),.tup l)]else none
 |_=>none
theorem Bq {R Sp} (h:R (vw Y)=some d) (hs:Sp (vw Y)=none) (h2:R (shv Y)=some d):∃c,evX R noV Sp Y=some ((c,d),Y):=by
 cases f:lfD d with
 |true=>exact⟨_,evX_lf h f⟩
 |false=>exact⟨_,yj h f rfl hs rfl h2⟩
theorem sj (ds:List D) (r:List (Str×D)) (h:gM fa ds=some r) (y:Addr):wV 2 3 (lK fa) y ds=some r:=by
 cases ds with
 |nil=>cases h
 |cons d t=>
  cases t with
  |cons _ _=>cases h
  |nil=>
   obtain⟨b,h1,h⟩:=bind_some (show(gz (fa [d])).bind _=some r from h);obtain⟨t,h2,h⟩:=bind_some h;cases t with
   |false=>cases h
   |true=>
    obtain⟨l,h3,h4⟩:=bind_some (show(aq [2] (jX noV (va 1)) (gNm 2) tQ (biF bQ (ae (va 2) aB)) [none,some d,none]).bind _=some r from h);cases h4;have h3':aq [2] (jX noV (va 1)) (gNm 2) tQ (biF bQ (ae (va 2) aB)) [some (.adr y),some d,none]=some l:=by
     rw[<-h3];unfold aq;simp;cases seqD d with
     |none=>rfl
     |some ps=>
      simp;rfl
    show lK fa y (rE 3 y [d]) []=_;unfold lK;have hst:rE 3 y [d]=[some (.sh,.adr y),some (.sh,d),none]:=rfl;rw[hst];have e1:(ifS (bP (trF (clF fa (ae (va 1) aB)))) (ab noO' nxE) nxE) [some (.sh,.adr y),some (.sh,d),none]=some (.nx [some (.sh,.adr y),some (.sh,d),none]):=by
     refine(dJ ?_).trans rfl;simp[h1,h2]
    unfold stI;rw[e1];simp only[Option.bind_some];obtain⟨c,e2⟩:=Bq (R:=biF bQ (ae (lsF (aq [2] (jX noV (va 1)) (gNm 2) tQ (biF bQ (ae (va 2) aB)))) aB)) (Sp:=fNo (ae (lsF (aq [2] (jX noV (va 1)) (gNm 2) tQ (biF bQ (ae (va 2) aB)))) aB)) (Y:=[some (.sh,.adr y),some (.sh,d),none]) (d:=.tup l)
     (by simp[h3']) (by simp) (by simp[h3'])
    unfold AL;rw[e2];simp[fZ,AK,pP]
noncomputable def ue (g:List D->Option (List (Str×D))):Prop:=∀ (w:Bool) (pss:Ps),Valid (pss.map (·.2))->g [sq w (pss.map paD)]=some [(("passes":Str),aK (pss.map (·.2)))]
theorem Er (ha:Ep fa):ue (gM fa):=λw pss hv=>by
 have hl6:pss.length<=6:=by have:=hv.len;simpa using this
 have hm:aq [2] (jX noV (va 1)) (gNm 2) tQ (biF bQ (ae (va 2) aB)) [none,some (sq w (pss.map paD)),none]=some (pss.map λp=>tpD p.2):=by
  refine aM (mk:=paD) (by simp) (λp _=>?_) (lt_of_le_of_lt hl6 (by decide));simp[paD,tpD]
 show((gz (fa [sq w (pss.map paD)])).bind _)=_;rw[ha w pss hv];simp[hm,aK]
theorem yE {β:Type} (xs:List β) (f:β->D) (t:Nat):mm (xs.map f) (some (t:Int)) none=(xs.drop t).map f:=by
 unfold mm;rw[HT.sIx_nat,HT.sIx_none,length_map,<-List.map_drop];by_cases h:t<=xs.length
 ·rw[Nat.min_eq_left h];rw[List.take_of_length_le (by rw[length_map,List.length_drop];omega)]
 ·have h':xs.length<=t:=by omega
  rw[Nat.min_eq_right h',List.drop_eq_nil_of_le (le_refl _),List.drop_eq_nil_of_le h'];simp
theorem lM {β:Type} (xs:List β) (f:β->D) (t:Nat):mm (xs.map f) none (some (t:Int))=(xs.take t).map f:=by
 unfold mm;rw[HT.sIx_nat,HT.sIx_none,length_map,List.drop_zero,Nat.sub_zero,<-List.map_take];by_cases h:t<=xs.length
 ·rw[Nat.min_eq_left h]
 ·rw[Nat.min_eq_right (by omega),List.take_of_length_le (le_refl _),List.take_of_length_le (by omega)]
theorem qi (hf:fl "Mill" "passes"=true) (ps:List (List Pk)):rD fl "passes" (af ps)=some (aK ps):=by
 show(if fl "Mill" "passes"=true then List.lookup ("passes":Str) ([("passes":Str)].zip [aK ps])else none)=_;rw[if_pos hf];rfl
structure WordOk (ps:List (List Pk)) (t:Nat) (w:List Nat):Prop where
 len:w.length=(ps.drop t).length
 each:∀q∈w.zip (ps.drop t),q.1<q.2.length
theorem yF (h:f (vw Y)=some d):nj f Y=some (.nx Y):=by unfold nj;rw[h];rfl
def JW (q:Nat×List Pk):Pk:=q.2[q.1]?.getD (true,0)
theorem oz {v:Nat->Int} (I:Nat->Ev->Prop) (hJ:J (shv Y)=some ((List.range n).map λi=>D.int (v i))) (h0:I 0 Y) (hs:∀ (i:Nat) (Y:Ev),i<n->I i Y->∃Y',F (Y.set s (some (.sh,.int (v i))))=some (.nx Y')/\I (i+1) Y'):∃Y',frF J (eNm s) F Y=some (.nx Y')/\I n Y':=by
 obtain⟨Y',e,i⟩:=fT (tg:=eNm s) (F:=F) I hJ h0 (λi d Y hd hi=>by
  rw[getElem?_map]at hd;cases hp:(List.range n)[i]? with
  |none=>rw[hp]at hd;cases hd
  |some p=>
   rw[hp]at hd;cases hd;obtain⟨hl,e⟩:=List.getElem?_eq_some_iff.mp hp;rw[List.getElem_range]at e;subst e;rw[length_range]at hl;exact hs i Y hl hi)
 rw[length_map,length_range]at i;exact⟨Y',e,i⟩
theorem vw_o (o:Option Sl) (Y:Ev):vw (o::Y)=o.map (·.2)::vw Y:=rfl
def scD (ns:List Int):D:=.lst (ns.map D.int)
@[simp] theorem JY (ns:List Int):seqD (scD ns)=some (ns.map D.int):=rfl
@[simp] theorem KP (ns:List Int):lfD (scD ns)=false:=rfl
theorem Hz (ns:List Int):lfL (ns.map D.int)=true:=bB λd hd=>by
 obtain⟨p,_,rfl⟩:=List.mem_map.mp hd;rfl
theorem HA (h:0<=i) (h2:i<ns.length):∃v,ixD (scD ns) (.int i)=some (.int v):=⟨_,Bn h h2⟩
theorem yG (h:0<=i) (h2:i<1000000000039):aL (.int i) (.int j)=some (.int (i*j)):=se (Int.lt_of_lt_of_le (by decide) h) (Int.lt_trans h2 (by decide))
theorem Br (P:D->Prop) (h:0<=i) (h2:i<ds.length) (ha:∀d∈ds,P d):∃d,P d/\atI ds i=some d:=by
 have hl:i.toNat<ds.length:=by omega
 exact⟨ds[i.toNat],ha _ (List.getElem_mem hl),lF h (getElem?_eq_getElem hl)⟩
theorem md (i:Int) (h:0<j):0<=i%j/\i%j<j:=⟨Int.emod_nonneg _ (by omega),Int.emod_lt_of_pos _ h⟩
theorem mw (i j:Int) (h:0<j):bj (.int i) (.int j)=some (.int (i%j)):=dL h
theorem Es (h1:1<=p.length) (h6:p.length<=6) (h:∀k∈p,okK k=true):okP p=true:=by
 unfold okP;rw[and_eq_true,and_eq_true,List.all_eq_true];exact⟨⟨decide_eq_true h1,decide_eq_true h6⟩,h⟩
theorem uf {a b:Nat} (ha:a<1000000):aL (.int (a:Int)) (.int (b:Int))=some (.int ((a*b:Nat):Int)):=by
 rw[Int.natCast_mul];exact se (Int.lt_of_lt_of_le (by decide) (Int.natCast_nonneg a)) (Int.lt_trans (show(a:Int)<1000000 by omega) (by decide))
end L2
namespace L2
open PySem PySem.Spec PyProof.Rows
theorem JZ (q:Bool):decide (kd q=("queue":Str))=q:=by cases q<;>decide
def lay (q:Bool) (a c:Int):Int:=if q=true then c else a-1-c
noncomputable def yH (f:List D->Option Sl):Prop:=∀ (q:Bool) (a c:Int),f [.str (kd q),.int a,.int c]=some (.deep,.int (lay q a c))
theorem Et:yH (aQ 3 3 yx):=λq a c=>by
 refine ao rfl ?_;unfold yx;refine aD (bt (evX_lf ?_ rfl));have hs:az 3 [.str (kd q),.int a,.int c]=[some (.sh,.str (kd q)),some (.sh,.int a),some (.sh,.int c)]:=rfl;rw[hs];simp only[vw_some,vw_none,vw_nil,lE,testB_a,bin2_a,va_a,shAt_s,shAt_0,shAt_1,cS_a,cI_a,Option.bind_some,yt,Bool.false_eq_true,if_false,asB_bl,JZ,subD_ii,lay];cases q<;>rfl
end L2
namespace L2
open PySem PySem.Spec PyProof.Rows
theorem yI (h:ab A B Y=some (.nx Y')):ab A (ab B C) Y=C Y':=by
 cases hA:A Y with
 |none=>unfold ab at h;rw[hA]at h;cases h
 |some o=>
  cases o with
  |nx r=>
   rw[ai hA]at h⊢;exact ai h
  |rt s=>rw[aD hA]at h;cases h
  |bk r=>unfold ab at h;rw[hA]at h;cases h
  |ct r=>unfold ab at h;rw[hA]at h;cases h
theorem Eu {K} {st} (n k:Nat) (X:K.In h) (hN:h.Ns mainGlobals mg) (hfa:mg "law"=some (.ref fa)) (S:FnScope N ["script"] (am st)) (b:dY "law" st ["script"]) (t:aX K "law" st) (g:∀base:Heap,K.In base->base.Ns mainGlobals mg->GbOk P w K mg base G) (hf:∀ns:List Int,ns.length<=63->gz (dfn n k N ["script"] st G [.lst (ns.map D.int)])=some (.bl true)):
  ∃fd:FuncData,(∀ (s:Shared) (v:Value),BindsTo s fd ⟨[v],[]⟩ [("script",v)])/\∀base:Heap,K.In base->base.Ns mainGlobals mg->FnOk P w K mg base CX0 (k+1) fa fd ["script"] (spL K):=by
 obtain⟨f,oc,od,an,osl,kV,doc,pm,cdv,ct,h1,h2,h3,h4⟩:=t
 have e:=hfa.symm.trans (PySem.W.mg_of X hN h1)
 cases e
 have Fn:=qV (st:=st) h2 h3 h4
 refine⟨_,λs v=>.of_eq (b "law" kV doc pm an cdv ct [v] rfl),λbase KB hB=>Ef (f:=dfn n k N ["script"] st G) (Gz Fn S λcdv A outer s H E hr=>?_) hf⟩
 exact(Ed n).2 _ _ (yi (g base KB hB) S cdv A outer s H E hr) _
theorem cn_int {K} (X:K.In h) (hN:h.Ns mainGlobals mg) (t:∃t,nsIn K mainGlobals x=some (some (.int i t))):Cn K mg x (.int i):=by
 obtain⟨t,e⟩:=t;exact⟨_,_,PySem.W.mg_of X hN e,(show RelV (.int i) _ from⟨t,rfl⟩),λH=>rfl⟩
theorem cn_2str {K} (X:K.In h) (hN:h.Ns mainGlobals mg) (t:∃ (a:Addr) (od:Option Addr) (n:Nat) (sl:Array (Option Value)) (t0:Tok) (t1:Tok),nsIn K mainGlobals x=some (some (.ref a))/\K.lookup a=some ⟨.type "tuple",od,.seq #[.str y t0,.str z t1] n,sl⟩):Cn K mg x (.tup [.str y,.str z]):=by
 obtain⟨a,od,n,sl,t0,t1,e,l⟩:=t;refine⟨.ref a,_,PySem.W.mg_of X hN e,rfl,λH=>⟨a,[.str y,.str z],rfl,.inr ⟨_,_,n,l,rfl,rfl,?_,?_⟩,⟨_,_,rfl,rfl,⟨_,_,rfl,rfl,rfl⟩⟩⟩⟩
 ·show 2<=sizeLine;decide
 ·exact .cons ⟨t0,rfl⟩ (.cons ⟨t1,rfl⟩ .nil)
theorem fl_one {K} (t:∃Ca,nsIn K mainGlobals C=some (some (.ref Ca))/\findIn K (.ref Ca) m=some none) (h:f=m):∀Ca,nsIn K mainGlobals C=some (some (.ref Ca))->NoAttr K Ca f:=λCa hc=>by
 obtain⟨Cb,e,n⟩:=t;rw[hc]at e;cases e;rw[h];exact n
theorem Bt {K} (c:TCls K C) (hc:nsIn K mainGlobals C=some (some (.ref Ca))):Cls K Ca:=by
 obtain⟨Cb,e,cl,_,_⟩:=c.ex;rw[hc]at e;cases e;exact cl
theorem J0 {K} {st} {kV doc pm cdv ct} (a:nsIn K mainGlobals x=some (some (.ref f))) (l:K.lookup f=some ⟨oc,od,.func (PySem.W.fnOf x x (bN st) (aJ st) (am st) .none kV doc pm an cdv ct),osl⟩) (c:PySem.W.codeIn K cdv x=true) (k:PySem.W.keepIn K (.ref f)=true):aX K x st:=⟨f,oc,od,an,osl,kV,doc,pm,cdv,ct,a,l,c,k⟩
theorem J2 {K} {st} {kV doc pm cdv ct} (a:nsIn K mainGlobals C=some (some (.ref Ca))) (n:findIn K (.ref Ca) m=some (some (.ref f))) (i:PySem.W.isFn K (.ref f)=true) (l:K.lookup f=some ⟨oc,od,.func (PySem.W.fnOf m qual (bN st) (aJ st) (am st) .none kV doc pm an cdv ct),osl⟩) (c:PySem.W.codeIn K cdv qual=true) (k:PySem.W.keepIn K (.ref f)=true):Bj K C m qual st:=⟨Ca,f,oc,od,an,osl,kV,doc,pm,cdv,ct,a,n,i,l,c,k⟩
theorem J3 {K} (a:nsIn K mainGlobals C=some (some (.ref Ca))) (pg:PySem.W.plainGet K Ca Str.empty=true) (hd:PySem.W.hasDictIn K Ca=true) (po:PySem.W.plainOver K Ca=true) (sa:findIn K (.ref Ca) "__setattr__"=some (some (.builtin "object.__setattr__"))) (mk:PySem.W.makesIn K Ca=true) (kc:PySem.W.keepIn K (.ref Ca)=true):TCls K C:=⟨Ca,a,⟨pg,hd,po,sa⟩,mk,kc⟩
theorem tno {K} (a:nsIn K mainGlobals C=some (some (.ref Ca))) (n:findIn K (.ref Ca) m=some none):∃Ca,nsIn K mainGlobals C=some (some (.ref Ca))/\findIn K (.ref Ca) m=some none:=⟨Ca,a,n⟩
theorem yJ {K} (a:nsIn K mainGlobals x=some (some (.int i t))):∃t,nsIn K mainGlobals x=some (some (.int i t)):=⟨t,a⟩
theorem HB {K} (e:nsIn K mainGlobals x=some (some (.ref a))) (l:K.lookup a=some ⟨.type "tuple",od,.seq #[.str y t0,.str z t1] n,sl⟩):
 ∃ (a:Addr) (od:Option Addr) (n:Nat) (sl:Array (Option Value)) (t0:Tok) (t1:Tok),nsIn K mainGlobals x=some (some (.ref a))/\K.lookup a=some ⟨.type "tuple",od,.seq #[.str y t0,.str z t1] n,sl⟩:=⟨a,od,n,sl,t0,t1,e,l⟩
structure Lt where
 s:Int
 t:Nat
 w:List Nat
structure LtOk (ps:List (List Pk)) (l:Lt):Prop where
 s1:1<=l.s
 s9:l.s<=9
 t:l.t<=ps.length
 w:WordOk ps l.t l.w
 fit:∀q∈l.w.zip (ps.drop l.t),l.s<=(JW q).2
theorem HC (h:(xs Y).bind tO=some ds):jX (enF xs) R Y=some ds:=by
 unfold jX orO enF;rw[h]
theorem vz {β:Type} {f} (xs:List β):kT (xs.map f)=(xs.zipIdx).map λp=>.tup [.int (p.2:Nat),f p.1]:=by
 unfold kT;rw[List.zipIdx_map,List.map_map];rfl
def rowD (r:List Nat):D:=.lst (r.map λ(k:Nat)=>D.int (k:Int))
theorem ny:∀ {es:List D},lfL es=true->extC .deep es=.deep
 |[],_=>rfl
 |d::es,h=>by
  rw[yp,and_eq_true]at h;show extC (newCat .deep (extS d)) es=.deep;rw[show newCat .deep (extS d)=.deep by unfold extS newCat;rw[h.1];rfl];exact ny h.2
theorem vA (h0:eE Y i=some (.deep,ds)) (hR:R (shv Y)=some (.lst es)) (lf:lfL es=true) (hl:ds.length+es.length<big):xb i R Y=some (.nx (Y.set i (some (.deep,.lst (ds++es))))):=by
 have e:extA i R Y=some (.nx (Y.set i (some (.deep,.lst (ds++es))))):=by
  unfold extA;rw[h0];simp only[Option.bind_some,hR];show(if ds.length+es.length<big then _ else _)=_;rw[if_pos hl,ny lf]
 unfold xb orO;rw[e]
end L2
namespace L2
open PySem PySem.Spec PyProof.Rows
theorem evX_cat {R L Sp} (h:R (vw Y)=none) (hl:L (vw Y)=some ds) (fl:lfL ds=true):evX R L Sp Y=some ((.deep,.lst ds),Y):=by
 unfold evX orO n5 frX orO lfO mo;simp only[h,hl,fl,Option.bind_some,Option.bind_none];rfl
noncomputable def cv (fl:Str->Str->Bool):Ev->Option Out:=(ab (frF (jX noV (flF fl "passes" (va 0))) (eNm 1) (ab (ifS (trF (biF xF (ae (lsF (aq [2,3] (jX noV (va 1)) (gTp 2 (bf (gNm 2) (bf (gNm 3) e8))) tQ (aa (aN false) (va 3) (cI 0)))) aB))) (ab noO' nxE) nxE) nxE)) nxE)
noncomputable def qj (aZ:List D->Option Sl):Ev->Option Out:=(ab (ifS (orQ (bP (trF (biF eZ (ae (va 0) (ae (tpF (ae (cT "list") (ae (cT "tuple") aB))) aB))))) (au (aa gtD (biF cq (ae (va 0) aB)) (cD (.int 24))))) (ab (fj (evX (cB false) noV noV)) nxE) nxE) (ab (fj (evX (eU (biF q0 (ae (lsF (aq [1] (jX noV (va 0)) (gNm 1) tQ (clF aZ (ae (va 1) (ae (cI 0) (ae (aa cQ (biF cq (ae (va 0) aB)) (cI 1)) aB)))))) aB)) (aa (aN false) (liG (ae (va 0) aB) (s1F (ae (va 0) aB))) (liG (ae (biF noD (ae (biF cq (ae (va 0) aB)) aB)) aB) (orO (lrF (ae (biF cq (ae (va 0) aB)) aB)) (l1F (ae (biF noD (ae (biF cq (ae (va 0) aB)) aB)) aB)))))) noV noV)) nxE))
section
variable {G F:Ev->Option Out} {Y Y':Ev} {out:Option Out}
theorem fC (h:g Y=some (s,Y')) (k:G (Y'.set i (some s))=out):ab (aj i g) G Y=out:=(ai (aW h)).trans k
theorem Ew (h:f (vw Y)=some d) (k:G Y=out):ab (nj f) G Y=out:=(ai (yF h)).trans k
theorem ug (h:c (vw Y)=some false) (k:G Y=out):ab (ifS c F nxE) G Y=out:=(ai ((dJ h).trans rfl)).trans k
theorem J5 (h:F Y=some (.nx Y')) (k:G Y'=out):ab F G Y=out:=(ai h).trans k
theorem c6 (h:g Y=some (s,Y')):ab (fj g) G Y=some (.rt s):=aD (bt h)
theorem HE (I:Nat->Ev->Prop) (hJ:J (shv Y)=some ds) (h0:I 0 Y) (hs:∀ (i:Nat) (d:D) (Y:Ev),ds[i]?=some d->I i Y->∃Y',(tg d Y).bind F=some (.nx Y')/\I (i+1) Y') (k:∀Y',I ds.length Y'->G Y'=out):ab (frF J tg F) G Y=out:=by
 obtain⟨Y',e,i⟩:=fT (tg:=tg) (F:=F) I hJ h0 hs;exact(ai e).trans (k _ i)
theorem yK {β:Type} {xs:List β} {mk} (I:Nat->Ev->Prop) (hJ:J (shv Y)=some (xs.map mk)) (h0:I 0 Y) (hs:∀ (i:Nat) (x:β) (Y:Ev),xs[i]?=some x->I i Y->∃Y',(tg (mk x) Y).bind F=some (.nx Y')/\I (i+1) Y') (k:∀Y',I xs.length Y'->G Y'=out):ab (frF J tg F) G Y=out:=HE I hJ h0 (λi d Y hd hi=>by
 rw[getElem?_map]at hd;cases hx:xs[i]? with
 |none=>rw[hx]at hd;cases hd
 |some x=>rw[hx]at hd;cases hd;exact hs i x Y hx hi) (by rw[length_map];exact k)
theorem Ex {β:Type} {xs:List β} {mk} (I:Nat->Ev->Prop) (hJ:J (shv Y)=some (xs.map mk)) (h0:I 0 Y) (hs:∀ (i:Nat) (x:β) (Y:Ev),xs[i]?=some x->I i Y->∃Y',(tg (mk x) Y).bind F=some (.nx Y')/\I (i+1) Y'):
  ∃Y',ab (frF J tg F) nxE Y=some (.nx Y'):=by
 obtain⟨Y',e,i⟩:=fT (tg:=tg) (F:=F) I hJ h0 (λi d Y hd hi=>by
  rw[getElem?_map]at hd;cases hx:xs[i]? with
  |none=>rw[hx]at hd;cases hd
  |some x=>rw[hx]at hd;cases hd;exact hs i x Y hx hi)
 exact⟨Y',(ai e).trans rfl⟩
end
theorem cw:∀r:List Nat,bU (r.map λ(k:Nat)=>D.int (k:Int))=some (r.map λ(k:Nat)=>(k:Int))
 |[]=>rfl
 |k::r=>by
  show(bU (r.map λ(k:Nat)=>D.int (k:Int))).bind (λxs=>some ((k:Int)::xs))=_;rw[cw r];rfl
theorem Bu {r:List Nat} (h:r.Perm (List.range n)):mv (r.map λ(k:Nat)=>(k:Int))=(List.range n).map λ(k:Nat)=>(k:Int):=by
 refine(xk (h.symm.map _) ?_).symm;rw[List.pairwise_map];exact List.pairwise_lt_range.imp λh=>by omega
theorem lN (h:r.Perm (List.range n)) (hn:n<=24):jy [rowD r]=some ((List.range n).map λ(k:Nat)=>D.int (k:Int)):=by
 show((bU (r.map λ(k:Nat)=>D.int (k:Int))).bind λns=>if ns.length<64 then some ((mv ns).map D.int)else none)=_;rw[cw];simp only[Option.bind_some];have hl:r.length=n:=by rw[h.length_eq,length_range]
 rw[if_pos (by rw[length_map];omega),Bu h,List.map_map];rfl
theorem sm {n:Nat} (hn:n<=24):lrD [.int (n:Int)]=some ((List.range n).map λ(k:Nat)=>D.int (k:Int)):=by
 show(if inR (n:Int)/\(n:Int)<1000000 then some (jM 0 (n:Int).toNat)else none)=_;rw[if_pos ⟨ud (by omega),by omega⟩,Int.toNat_natCast,yw]
theorem oA:∀r:List Nat,okL (r.map λ(k:Nat)=>D.int (k:Int))=true/\c9 (r.map λ(k:Nat)=>D.int (k:Int))=0
 |[]=>⟨rfl,rfl⟩
 |k::r=>⟨by show(true&&okL _)=true;rw[(oA r).1];rfl,by show max 0 (c9 _)=0;rw[(oA r).2];rfl⟩
theorem Bv (neg:Bool) (h2:okE d=true) (h3:dep d<=50) (h4:Do d d=true) (h1:aT d=false):aN neg d d=some (.bl (!neg)):=by
 unfold aN jw;rw[show(aT d&&aT d&&ph (toV d) (toV d))=false by rw[h1];rfl,if_neg (by decide),h2,h4,decide_eq_true h3,if_pos (by rfl),pM _ h2];cases neg<;>rfl
theorem oB (neg:Bool) (r:List Nat):aN neg (rowD r) (rowD r)=some (.bl (!neg)):=Bv neg (oA r).1 (by show c9 _+1<=50;rw[(oA r).2];decide) rfl rfl
theorem jF (h:L Y=some ds):liG xs L Y=some (.lst ds):=by
 unfold liG orO lsF;have:(xs Y).bind noD=none:=by cases xs Y<;>rfl
 simp only[this,h];rfl
theorem J6 (hn:n<=24) (h:ys Y=some [.int (n:Int)]):orO (lrF ys) zs Y=some ((List.range n).map λ(k:Nat)=>D.int (k:Int)):=by
 have:lrF ys Y=some ((List.range n).map λ(k:Nat)=>D.int (k:Int)):=by
  unfold lrF;rw[h];exact sm hn
 unfold orO;rw[this]
theorem yL {β:Type} (xs:List β) (p:β->Bool):xF [.lst (xs.map λx=>.bl (p x))]=some (.bl (xs.any p)):=by
 have e:xs.map (λx=>D.bl (p x))=(xs.map p).map D.bl:=by rw[List.map_map];rfl
 rw[e];unfold xF un1;simp only[eV,Option.bind_some];rw[lH];simp[List.any_map];rfl
def Wide (ps:List (List Pk)):Prop:=∀p∈ps,∀k∈p,1<=k.2
noncomputable def Ey (f:List D->Option Sl):Prop:=∀ps:List (List Pk),Valid ps->Wide ps->f [af ps]=some (.deep,.non)
theorem HF (hfl:fl "Mill" "passes"=true):Ey (aQ 1 4 (cv fl)):=λps hv hw=>by
 have hs:az 4 [af ps]=[some (.sh,af ps),none,none,none]:=rfl;have hf:rD fl "passes" (af ps)=some (aK ps):=by simp[rD,af,hfl]
 have L:∃Y',cv fl [some (.sh,af ps),none,none,none]=some (.nx Y'):=by
  unfold cv;refine Ex (xs:=ps) (mk:=tpD) (λi Y=>∃o1,Y=[some (.sh,af ps),o1,none,none]) ?_ ⟨none,rfl⟩ ?_
  ·simp only[db,iW,fB,ig,Hk,va_a,shAt_0,Option.bind_some,hf];rfl
  ·rintro i p Y hp ⟨o1,rfl⟩;have hpl:p.length<=6:=(hv.p (mem_of_getElem? hp)).2.1;have hm:aq [2,3] (jX noV (va 1)) (gTp 2 (bf (gNm 2) (bf (gNm 3) e8))) tQ (aa (aN false) (va 3) (cI 0)) [some (af ps),some (tpD p),none,none]=some (p.map λ_=>.bl false):=by
    refine aM (xs:=p) (mk:=pkD) (out:=λ_=>.bl false) (by simp only[db,va_a,shAt_1,Option.bind_some];rfl) (λk hk=>?_) (lt_of_le_of_lt hpl (by decide));have h1:¬k.2=0:=by have:=hw p (mem_of_getElem? hp) k hk;omega
    show gZ _ _ _ _ (.tup [.str (kd k.1),.int k.2])=_;simp[h1]
   refine⟨_,ug ?_ rfl,⟨some (.sh,tpD p),rfl⟩⟩;simp only[List.set_cons_succ,List.set_cons_zero,vw_some,vw_none,vw_nil,trF_a,biF_a,consX_a,nilX_a,lsF_a,hm,map_some,Option.bind_some,yL p λ_=>false];simp
 obtain⟨Y',e⟩:=L;exact yu rfl e
noncomputable def ss (f:List D->Option Sl):Prop:=∀ (r:List Nat) (n:Nat),r.Perm (List.range n)->n<=24->f [rowD r]=some (.deep,.bl true)
theorem Bw (hw:im w):ss (aQ 1 2 (qj w)):=λr n pm hn=>by
 have hs:az 2 [rowD r]=[some (.sh,rowD r),none]:=rfl;have hl:r.length=n:=by rw[pm.length_eq,length_range]
 have y:seqD (rowD r)=some (r.map λ(k:Nat)=>D.int (k:Int)):=rfl;have hm:aq [1] (jX noV (va 0)) (gNm 1) tQ (clF w (ae (va 1) (ae (cI 0) (ae (aa cQ (biF cq (ae (va 0) aB)) (cI 1)) aB)))) [some (rowD r),none]=some (r.map λ_=>.bl true):=by
  refine aM (xs:=r) (mk:=λ(k:Nat)=>D.int (k:Int)) (out:=λ_=>.bl true) (by simp only[db,va_a,shAt_0,Option.bind_some,y]) (λk hk=>?_) (lt_of_le_of_lt (by omega:r.length<=24) (by decide));have h1:=List.mem_range.mp (pm.mem_iff.mp hk);have h2:(0:Int)<=(k:Int):=by omega
  have h3:(k:Int)<=(r.length:Int)-1:=by omega
  simp only[stepF_a,wipe_cons,wipe_nil,gNm_a,tQ_a,List.set_cons_succ,List.set_cons_zero,Option.bind_some,if_true,clF_a,consX_a,nilX_a,va_a,shAt_0,shAt_1,cI_a,bin2_a,biF_a,b8,y,length_map,subD_ii,hw (k:Int) 0 ((r.length:Int)-1),valO_some,h2,h3,decide_true];rfl
 have s1:s1F (ae (va 0) aB) [some (rowD r),none]=some ((List.range n).map λ(k:Nat)=>D.int (k:Int)):=by
  show(ae (va 0) aB _).bind bT=_;simp only[consX_a,nilX_a,va_a,shAt_0,Option.bind_some,fS (lN pm hn)]
 refine ao rfl ?_;rw[hs];unfold qj;have h24:¬ (24:Int)<(r.length:Int):=by omega
 refine ug ?_ (c6 (evX_lf ?_ rfl))
 ·simp only[vw_some,vw_none,vw_nil,qh,notQ_a,trF_a,testB_a,bin2_a,biF_a,consX_a,nilX_a,va_a,shAt_0,Cj,JA,Jz,Option.bind_some,capL_2,Hq,Ej,show bV (rowD r)=some "list"from rfl,List.any_cons,List.any_nil,Ek,truD_bl,b8,y,length_map,r6,asB_bl,h24,decide_false];rfl
 ·simp only[vw_some,vw_none,vw_nil,ym,biF_a,consX_a,nilX_a,lsF_a,hm,map_some,Option.bind_some,lI r λ_=>true,asB_bl];rw[show(r.all λ_=>true)=true by simp];simp only[if_true,bin2_a];rw[jF s1,jF (J6 hn (by simp only[consX_a,nilX_a,biF_a,va_a,shAt_0,Option.bind_some,b8,y,length_map,hl]))];exact oB false (List.range n)
structure One (ps:List (List Pk)) (l:Lt):Prop where
 s:l.s=1
 t:l.t=0
 w:WordOk ps 0 l.w
@[simp] theorem Ez (a b c d:D):bJ (some [a,b,c,d])=some [a,b,c,d]:=dM (show 4<big by decide)
@[simp] theorem IA (a b c d e f g h i j:D):bJ (some [a,b,c,d,e,f,g,h,i,j])=some [a,b,c,d,e,f,g,h,i,j]:=dM (show 10<big by decide)
section
variable {α:Type} {G F:Ev->Option Out} {Y Y':Ev} {out:α->Option Out} {P:α->Prop}
theorem gC (h:F Y=some (.nx Y')) (k:∃a,G Y'=out a/\P a):∃a,ab F G Y=out a/\P a:=k.imp λ_ q=>⟨(ai h).trans q.1,q.2⟩
theorem av (h:g Y=some (s,Y')) (k:∃a,G (Y'.set i (some s))=out a/\P a):∃a,ab (aj i g) G Y=out a/\P a:=gC (aW h) k
theorem ql (h:c (vw Y)=some false) (k:∃a,G Y=out a/\P a):∃a,ab (ifS c F nxE) G Y=out a/\P a:=gC ((dJ h).trans rfl) k
theorem Bx {b:Bool} (h:c (vw Y)=some b) (k1:∃Y',(if b then F Y else F' Y)=some (.nx Y')/\∃a,G Y'=out a/\P a):∃a,ab (ifS c F F') G Y=out a/\P a:=by
 obtain⟨Y',e,k⟩:=k1;cases b with
 |true=>exact gC ((jB h).trans e) k
 |false=>exact gC ((dJ h).trans e) k
theorem qo {v:Nat->Int} (I:Nat->Ev->Prop) (hJ:J (shv Y)=some ((List.range n).map λi=>D.int (v i))) (h0:I 0 Y) (hs:∀ (i:Nat) (Y:Ev),i<n->I i Y->∃Y',F (Y.set s (some (.sh,.int (v i))))=some (.nx Y')/\I (i+1) Y') (k:∀Y',I n Y'->∃a,G Y'=out a/\P a):∃a,ab (frF J (eNm s) F) G Y=out a/\P a:=by
 obtain⟨Y',e,i⟩:=oz (s:=s) (F:=F) I hJ h0 hs;exact gC e (k _ i)
theorem uh {β:Type} {xs:List β} {mk} (I:Nat->Ev->Prop) (hJ:J (shv Y)=some (xs.map mk)) (h0:I 0 Y) (hs:∀ (i:Nat) (x:β) (Y:Ev),xs[i]?=some x->I i Y->∃Y',(tg (mk x) Y).bind F=some (.nx Y')/\I (i+1) Y') (k:∀Y',I xs.length Y'->∃a,G Y'=out a/\P a):∃a,ab (frF J tg F) G Y=out a/\P a:=by
 obtain⟨Y',e,i⟩:=fT (tg:=tg) (F:=F) I hJ h0 (λi d Y hd hi=>by
  rw[getElem?_map]at hd;cases hx:xs[i]? with
  |none=>rw[hx]at hd;cases hd
  |some x=>rw[hx]at hd;cases hd;exact hs i x Y hx hi)
 rw[length_map]at i;exact gC e (k _ i)
theorem gf {P:Ev->Prop} (h:P Y):∃a,nxE Y=some (.nx a)/\P a:=⟨Y,rfl,h⟩
theorem qp {P:Ev->Prop} (h:F' Y=some (.nx Y')) (p:P Y'):∃a,ab F' nxE Y=some (.nx a)/\P a:=gC h (gf p)
end
abbrev dp (d:D):Option Sl:=some (.deep,d)
abbrev sn (d:D):Option Sl:=some (.sh,d)
abbrev iN (n:Nat):D:=.int (n:Int)
abbrev Fn:=List D->Option Sl
abbrev Fv:=Vv->Option D
abbrev Fx:=Vv->Option (List D)
abbrev evV (R:Fv):=evX R noV noV
abbrev evC (f:Fn) (xs:Fx):=evX (clF f xs) noV (fCl f xs)
abbrev evE:=evX (lsF (dpF aB)) (dpF aB) (fLs aB)
abbrev jR (xs:Fx):=jX (r1F xs) (biF noD xs)
abbrev rtF (g:Ev->Option (Sl×Ev)):=ab (fj g) nxE
abbrev x1 (a:Fv):Fx:=ae a aB
abbrev x2 (a b:Fv):Fx:=ae a (x1 b)
abbrev x3 (a b c:Fv):Fx:=ae a (x2 b c)
abbrev x4 (a b c d:Fv):Fx:=ae a (x3 b c d)
abbrev x5 (a b c d e:Fv):Fx:=ae a (x4 b c d e)
abbrev x6 (a b c d e f:Fv):Fx:=ae a (x5 b c d e f)
abbrev lnF (a:Fv):Fv:=biF cq (x1 a)
theorem tr {α:Type} {P:α->Prop} {f g} (h:P g) (e:f=g:=by kernel_rfl):P f:=e▸h
theorem vB:x1 a Y=ae a aB Y:=rfl
theorem lO:x2 a b Y=ae a (x1 b) Y:=rfl
theorem vC:x3 a b c Y=ae a (x2 b c) Y:=rfl
noncomputable def sB0:=And.intro @vw_o (And.intro @vw_nil (And.intro @vw_some (And.intro @vw_none (And.intro @map_some.{0,0} (And.intro @Option.map_none.{0,0} (And.intro @List.set_cons_succ.{0} (And.intro @List.set_cons_zero.{0} (And.intro @consX_a (And.intro @nilX_a (And.intro @va_a (And.intro @shAt_s (And.intro @shAt_0 (And.intro @shAt_1 (And.intro @Option.bind_some.{0,0} (And.intro @bin2_a (And.intro @biF_a (And.intro @clF_a (And.intro @fCl_a (And.intro @cI_a (And.intro @cS_a (And.intro @testB_a (And.intro @notQ_a (And.intro @trF_a (And.intro @andQ_a (And.intro @valO_some (And.intro @asB_bl (And.intro @truD_bl (And.intro @addD_ii (And.intro @subD_ii (And.intro @lsF_a (And.intro @dpF_a (And.intro @capL_1 (And.intro @capL_2 (And.intro @stepF_a (And.intro @wipe_cons (And.intro @wipe_nil (And.intro @gNm_a (And.intro @tQ_a (@if_true.{1})))))))))))))))))))))))))))))))))))))))
theorem sB:type_of%sB0:=sB0
end L2
namespace HD
open PySem PySem.W PyProof.Rows
abbrev S0 (w:World) (os:OsState):Shared:=⟨boot_heap w.params,Array.mk [],boot_drawn,boot_toks,os⟩
theorem left_of {Ya:World->α} {F:World->OsState->Shared} (o:∀w:World,(fencedOpening treeTable p w N).map (λs=>(s.heap,s.gens,s.drawn,s.toks))=some (boot_heap w.params,Array.mk [],boot_drawn,boot_toks)) (sz:∀w:World,(boot_heap w.params).isNs mainGlobals=true/\(boot_heap w.params).objs.size=m₀/\(boot_heap w.params).nsMap mainGlobals "__annotations__"=ann) (rn:∀w os,topRun treeTable p w m₀ ann M (S0 w os) (topStub p)=some (F w os)) (le:M<=N) (lk:∀w os,((staticsOk (importedModules p.main.body) (boot_heap w.params) (F w os).heap&&namesBound p (F w os).heap&&gensDone (F w os)&&laidKept (boot_heap w.params) (F w os).heap),openSeen q loose (importedModules p.main.body) Xt true (F w os),Yf (F w os))=(true,openGood q loose,Ya w)):
  LeftO p q loose Xt Yf Ya N:=by
 intro w
 obtain⟨s,e,e'⟩:=Option.map_eq_some_iff.mp (o w)
 cases s with
 |mk h gs d k os=>
 simp only[Prod.mk.injEq]at e'
 obtain⟨a1,a2,a3,a4⟩:=e'
 subst a1 a2 a3 a4
 obtain⟨z1,z2,z3⟩:=sz w
 have l:=lk w os
 simp only[Prod.mk.injEq]at l
 obtain⟨l1,l2,l3⟩:=l
 have r:=topRun_mono (N-M) _ _ _ _ (rn w os)
 rw[show M+(N-M)=N from Nat.add_sub_cancel' le]at r
 have t:topFrom treeTable p w N (S0 w os)=some (F w os):=by
  unfold topFrom;dsimp only;rw[z2,z3];rw[r];simp only[z1];show(match(staticsOk (importedModules p.main.body) (boot_heap w.params) (F w os).heap&&namesBound p (F w os).heap&&gensDone (F w os)&&laidKept (boot_heap w.params) (F w os).heap)with|true=>_|false=>_)=_;rw[l1]
 unfold openEnds
 rw[e]
 show Option.map _ (topFrom treeTable p w N (S0 w os))=_
 rw[t]
 exact congrArg some (Prod.ext l2 l3)
abbrev HG:=@PySem.W.Fast.tw10110043849684766642
abbrev HH:=@PySem.W.Fast.tw14364793385576792824
abbrev yM:=@PySem.W.Fast.tw12563942051412417395
theorem HI:@segRunT=@HG:=PySem.W.Fast.te10110043849684766642
theorem HJ:@treeTable=@HH:=PySem.W.Fast.te14364793385576792824
theorem By:@execs=@yM:=PySem.W.Fast.te12563942051412417395
def put:List Obj->Nat->BT->BT
 |[],_,t=>t
 |o::l,i,t=>put l (i+1) (t.ins i o)
noncomputable def toT (s:Shared):SharedT:=⟨put s.heap.objs.toList 0 .nil,s.heap.objs.size,s.heap.life,s.gens,s.drawn,s.toks,s.os⟩
def st1 (d:Shared):Option (Shared×Thread)->Shared
 |some (s,_)=>s
 |none=>d
def st2 (d:Shared):Option (Flow×Shared×Code×Pos)->Shared
 |some (_,s,_)=>s
 |none=>d
def st3 (d:SharedT):Option (Flow×SharedT×Code×Pos)->SharedT
 |some (_,s,_)=>s
 |none=>d
theorem of1 (h:o.map (·.2)=some t):o=some (st1 d o,t):=by
 cases o with
 |none=>cases h
 |some z=>cases h;rfl
theorem of2 (h:o.map (λr=>(r.1,r.2.2))=some (f,c,q)):o=some (f,st2 d o,c,q):=by
 cases o with
 |none=>cases h
 |some z=>obtain⟨a,b,x,y⟩:=z;cases h;rfl
theorem of3 (h:o.map (λr=>(r.1,r.2.2))=some (f,c,q)):o=some (f,st3 d o,c,q):=by
 cases o with
 |none=>cases h
 |some z=>obtain⟨a,b,x,y⟩:=z;cases h;rfl
section
variable (p:Program) (m₀:Nat) (ann:Option Value) (env:Env) (q pa pb:Pos) (k1 k2 k3:Nat)
abbrev cd:Code:=.body (behindTheImports p) env
noncomputable def A (w:World) (os:OsState):Option (Shared×Thread):=topGo treeTable p w m₀ ann k1 (S0 w os) (topStub p)
def SA (w:World) (os:OsState):Shared:=st1 (S0 w os) (A p m₀ ann k1 w os)
noncomputable def B (w:World) (os:OsState):Option (Flow×Shared×Code×Pos):=segRun treeTable p w m₀ ann 1 k2 (SA p m₀ ann k1 w os) (blockOf (behindTheImports p) env (cd p env) pa [topFrame q])
def SB (w:World) (os:OsState):Shared:=st2 (S0 w os) (B p m₀ ann env q pa k1 k2 w os)
noncomputable def C (w:World) (os:OsState):Option (Flow×SharedT×Code×Pos):=HG HH p w m₀ ann 1 k3 (toT (SB p m₀ ann env q pa k1 k2 w os)) ⟨(yM (behindTheImports p) env).wrap doneF deadEnd id id,cd p env,pb,[topFrame q]⟩
theorem HK (w:World) (os:OsState):C p m₀ ann env q pa pb k1 k2 k3 w os=segRunT treeTable p w m₀ ann 1 k3 (toT (SB p m₀ ann env q pa k1 k2 w os)) (piecesOf (behindTheImports p) env (cd p env) pb [topFrame q]):=by
 unfold C piecesOf;rw[HI,HJ,By]
def SC (w:World) (os:OsState):SharedT:=st3 (toT (S0 w os)) (C p m₀ ann env q pa pb k1 k2 k3 w os)
end
theorem run_of (hA:∀w os,(A p m₀ ann k1 w os).map (·.2)=some ⟨denote treeTable (cd p env),cd p env,pa,[topFrame q]⟩) (hB:∀w os,(B p m₀ ann env q pa k1 k2 w os).map (λr=>(r.1,r.2.2))=some (.next,cd p env,pb)) (hT:∀w os,(toT (SB p m₀ ann env q pa k1 k2 w os)).abs=SB p m₀ ann env q pa k1 k2 w os) (hC:∀w os,(C p m₀ ann env q pa pb k1 k2 k3 w os).map (λr=>(r.1,r.2.2))=some (.next,cd p env,pc)) (hF:∀w s,topRun treeTable p w m₀ ann k4 s ⟨doneF .next,cd p env,pc,[topFrame q]⟩=some s) (w:World) (os:OsState):
  topRun treeTable p w m₀ ann (k1+(k2+(k3+k4))) (S0 w os) (topStub p)=some (SC p m₀ ann env q pa pb k1 k2 k3 w os).abs:=by
 have a:=of1 (d:=S0 w os) (hA w os)
 have b:=of2 (d:=S0 w os) (hB w os)
 have c:=of3 (d:=toT (S0 w os)) (hC w os)
 rw[HK]at c
 have c:=segRun_of c
 rw[hT w os]at c
 rw[<-HK]at c
 refine go_top a (piece_block b ?_)
 have k:=piece_app (rest:=[]) c (piece_nil (hF w _))
 rw[List.append_nil]at k
 exact k
end HD
namespace K20
open PySem PySem.Spec PyProof.Rows L2
theorem EA (h:jN Y j=none):evM j g Y=g Y:=by
 unfold evM orO mvE;rw[h];rfl
theorem evM_lf {R L Sp} (h0:jN Y j=none) (h:R (vw Y)=some d) (f:lfD d=true):evM j (evX R L Sp) Y=some ((.deep,d),Y):=(EA h0).trans (evX_lf h f)
theorem yN {α:Type} (k:α->List Int) (L:List α):(L.mergeSort λa b=>!HT.lexLt (k b) (k a)).Pairwise λa b=>HT.lexLt (k b) (k a)=false:=by
 refine(List.pairwise_mergeSort (le:=λa b=>!HT.lexLt (k b) (k a)) (λa b c h1 h2=>?_) (λa b=>?_) L).imp λh=>by simpa using h
 ·simp only[Bool.not_eq_true']at h1 h2⊢;cases e:HT.lexLt (k c) (k a)with
  |false=>rfl
  |true=>rw[lh _ _ _ e h1]at h2;cases h2
 ·cases e:HT.lexLt (k b) (k a)with
  |false=>rfl
  |true=>rw[om _ _ e];rfl
theorem vD {α:Type} {g} (hg:∀a,∃ds,g a=.tup ds) {L} (h64:L.length<1024) (h:gB (L.map g)):
  ∃T:List α,T.Perm L/\T.Pairwise (λa b=>HT.lexLt (flt (g b)) (flt (g a))=false)/\bT [.lst (L.map g)]=some (T.map g):=by
 refine⟨L.mergeSort λa b=>!HT.lexLt (flt (g b)) (flt (g a)),List.mergeSort_perm _ _,yN (λa=>flt (g a)) L,?_⟩
 have e:oo (L.map g)=(L.mergeSort λa b=>!HT.lexLt (flt (g b)) (flt (g a))).map g:=(tY h ((List.mergeSort_perm _ _).map g) (List.pairwise_map.mpr (yN (λa=>flt (g a)) L))).symm
 rw[<-e]
 cases L with
 |nil=>
  refine fS ?_;show(if([]:List Int).length<1024 then some ((mv []).map D.int)else none)=_;rw[if_pos (by decide)];rw[show mv []=[]from List.mergeSort_nil,show oo (List.map g [])=[]from List.mergeSort_nil];rfl
 |cons a L=>
  refine AT ?_ ?_
  ·obtain⟨ds,e⟩:=hg a;show(bU ((a::L).map g)).bind _=none;rw[List.map_cons,e];rfl
  ·show(if((a::L).map g).length<1024/\gB ((a::L).map g)then some (oo ((a::L).map g))else none)=_;rw[if_pos ⟨by rw[length_map];exact h64,h⟩]
abbrev Sd:=Int×Int
def sdD (p:Sd):D:=.tup [.int p.1,.int p.2]
theorem Bz (h:S.length<1024):∃T:List Sd,T.Perm S/\T.Pairwise (λa b=>HT.lexLt [b.1,b.2] [a.1,a.2]=false)/\bT [.lst (S.map sdD)]=some (T.map sdD):=
 vD (g:=sdD) (λ_=>⟨_,rfl⟩) h ⟨[none,none],by decide,λd hd=>by
  obtain⟨p,_,rfl⟩:=List.mem_map.mp hd;exact⟨[p.1,p.2],rfl⟩⟩
theorem lx2 (a b c d:Int):HT.lexLt [a,b] [c,d]=decide (a<c\/(a=c/\b<d)):=by
 rw[HT.lexLt_cons,HT.lexLt_cons];by_cases h:a=c
 ·rw[if_pos h];by_cases g:b=d
  ·rw[if_pos g];refine(decide_eq_false ?_).symm;omega
  ·rw[if_neg g];by_cases k:b<d
   ·rw[decide_eq_true k];exact(decide_eq_true (.inr ⟨h,k⟩)).symm
   ·rw[decide_eq_false k];exact(decide_eq_false (by omega)).symm
 ·rw[if_neg h];by_cases k:a<c
  ·rw[decide_eq_true k];exact(decide_eq_true (.inl k)).symm
  ·rw[decide_eq_false k];exact(decide_eq_false (by omega)).symm
noncomputable def nz (W:List (List Nat)) (p:List Pk):List (List Nat):=(List.range p.length).flatMap λk=>W.map λw=>w++[k]
def wds (rs:List (List Pk)):List (List Nat):=rs.foldl nz [[]]
theorem fD (rs:List (List Pk)) (p:List Pk):wds (rs++[p])=nz (wds rs) p:=by unfold wds;rw[List.foldl_append];rfl
def pkg (p:List Pk) (k:Nat):Pk:=p.getD k (true,0)
noncomputable def bH (n k:Nat) (pk:Pk) (c:Sd):Sd:=((k:Int)*(n:Int)+(if pk.1 then c.1 else(n:Int)-1-c.1),if pk.1 then c.2 else -c.2)
noncomputable def pl:Nat->List (List Pk)->List Nat->Sd->Sd
 |_,[],_,c=>c
 |_,_::_,[],c=>c
 |n,p::rs,k::w,c=>pl (n*p.length) rs w (bH n k (pkg p k) c)
theorem ka:∀ {rs:List (List Pk)} {w:List Nat} (n:Nat) (c:Sd) (p:List Pk) (k:Nat),w.length=rs.length->pl n (rs++[p]) (w++[k]) c=bH (n*prod rs) k (pkg p k) (pl n rs w c)
 |[],[],n,c,p,k,_=>by show bH n k _ c=bH (n*1) k _ c;rw[Nat.mul_one]
 |[],_::_,_,_,_,_,h=>by cases h
 |_::_,[],_,_,_,_,h=>by cases h
 |q::rs,j::w,n,c,p,k,h=>by
  show pl (n*q.length) (rs++[p]) (w++[k]) (bH n j (pkg q j) c)=bH (n*(q.length*prod rs)) k (pkg p k) (pl (n*q.length) rs w (bH n j (pkg q j) c));rw[ka _ _ _ _ (Nat.succ.inj h),Nat.mul_assoc]
noncomputable def io (s:Int):List (List Pk)->List Nat->Bool
 |[],_=>true
 |_::_,[]=>true
 |p::rs,k::w=>decide (s<=(pkg p k).2)&&io s rs w
theorem lP:∀ {rs:List (List Pk)} {w:List Nat} (p:List Pk) (k:Nat),w.length=rs.length->io s (rs++[p]) (w++[k])=(io s rs w&&decide (s<=(pkg p k).2))
 |[],[],p,k,_=>by show(decide _&&true)=(true&&_);rw[Bool.and_true,Bool.true_and]
 |[],_::_,_,_,h=>by cases h
 |_::_,[],_,_,h=>by cases h
 |q::rs,j::w,p,k,h=>by
  show(decide _&&io s (rs++[p]) (w++[k]))=((decide _&&io s rs w)&&_);rw[lP _ _ (Nat.succ.inj h),Bool.and_assoc]
theorem ui {α:Type} {P:List α->Prop} (h0:P []) (h1:∀l a,P l->P (l++[a])) (l:List α):P l:=by
 have:∀l:List α,P l.reverse:=λl=>by
  induction l with
  |nil=>exact h0
  |cons a l ih=>rw[List.reverse_cons];exact h1 _ _ ih
 have z:=this l.reverse;rwa [List.reverse_reverse]at z
theorem fU:∀ (rs:List (List Pk)),∀w∈wds rs,w.length=rs.length/\∀q∈w.zip rs,q.1<q.2.length:=by
 refine ui (λw hw=>?_) λrs p ih w hw=>?_
 ·cases mem_singleton.mp hw;exact⟨rfl,λ_ h=>nomatch h⟩
 ·rw[fD]at hw;obtain⟨k,hk,hw⟩:=List.mem_flatMap.mp hw;obtain⟨v,hv,rfl⟩:=List.mem_map.mp hw;obtain⟨h1,h2⟩:=ih v hv;refine⟨by rw[length_append,length_append,h1];rfl,λq hq=>?_⟩;rw[List.zip_append h1]at hq;rcases mem_append.mp hq with hq|hq
  ·exact h2 q hq
  ·cases mem_singleton.mp hq;exact List.mem_range.mp hk
theorem BA:∀ (rs:List (List Pk)),(wds rs).length=prod rs:=by
 refine ui rfl λrs p ih=>?_;rw[fD,bC,<-ih];unfold nz;rw[List.length_flatMap];have:∀l:List Nat,(l.map λk=>((wds rs).map λw=>w++[k]).length).sum=(wds rs).length*l.length:=λl=>by
  induction l with
  |nil=>rfl
  |cons a l ih=>rw[List.map_cons,List.sum_cons,ih,length_map,length_cons,Nat.mul_succ,Nat.add_comm]
 rw[this,length_range]
noncomputable def yO (s:Int) (n:Nat) (p:List Pk) (S:List Sd):List Sd:=(List.range p.length).flatMap λk=>if s<=(pkg p k).2 then S.map (bH n k (pkg p k))else[]
noncomputable def sds (s:Int) (n:Nat) (rs:List (List Pk)):List Sd:=((wds rs).filter (io s rs)).map λw=>pl n rs w ((n:Int)-1,1)
theorem yP (s:Int) (n:Nat) (rs:List (List Pk)) (p:List Pk):sds s n (rs++[p])=yO s (n*prod rs) p (sds s n rs):=by
 unfold sds yO;rw[fD];unfold nz;rw[List.filter_flatMap,List.map_flatMap];refine congrArg (λf=>List.flatMap f (List.range p.length)) (funext λk=>?_);have e:((wds rs).map λw=>w++[k]).filter (io s (rs++[p]))=if s<=(pkg p k).2 then((wds rs).filter (io s rs)).map (λw=>w++[k])else[]:=by
  rw[List.filter_map];by_cases h:s<=(pkg p k).2
  ·rw[if_pos h];refine congrArg _ (List.filter_congr λw hw=>?_);show io s (rs++[p]) (w++[k])=_;rw[lP _ _ (fU rs w hw).1,decide_eq_true h,Bool.and_true]
  ·rw[if_neg h];have:(wds rs).filter (io s (rs++[p])∘λw=>w++[k])=[]:=List.filter_eq_nil_iff.mpr λw hw=>by
    show¬io s (rs++[p]) (w++[k])=true;rw[lP _ _ (fU rs w hw).1,decide_eq_false h,Bool.and_false];decide
   rw[this];rfl
 rw[e];by_cases h:s<=(pkg p k).2
 ·rw[if_pos h,if_pos h,List.map_map,List.map_map];exact List.map_congr_left λw hw=>ka _ _ _ _ (fU rs w (List.mem_filter.mp hw).1).1
 ·rw[if_neg h,if_neg h];rfl
theorem BB (s:Int) (n:Nat) (rs:List (List Pk)):(sds s n rs).length<=prod rs:=by
 unfold sds;rw[length_map,<-BA];exact List.length_filter_le _ _
end K20
namespace K20
open PySem PySem.Spec PyProof.Rows L2
def dg:List (List Pk)->Nat->List Nat
 |[],_=>[]
 |p::rs,m=>m%p.length::dg rs (m/p.length)
theorem yQ:∀ (rs:List (List Pk)) (m:Nat),(dg rs m).length=rs.length
 |[],_=>rfl
 |p::rs,m=>by show(dg rs _).length+1=_;rw[yQ rs];rfl
theorem oC:∀ (rs:List (List Pk)) (p:List Pk) (m:Nat),dg (rs++[p]) m=dg rs m++[m/prod rs%p.length]
 |[],p,m=>by show[m%p.length]=[m/1%p.length];rw[Nat.div_one]
 |q::rs,p,m=>by
  show m%q.length::dg (rs++[p]) (m/q.length)=m%q.length::(dg rs (m/q.length)++[m/(q.length*prod rs)%p.length]);rw[oC rs p,Nat.div_div_eq_div_mul]
theorem yR:∀ (rs:List (List Pk)) (k j:Nat),(∀p∈rs,0<p.length)->dg rs (k*prod rs+j)=dg rs j
 |[],_,_,_=>rfl
 |q::rs,k,j,h=>by
  have hq:=h q mem_cons_self;have e0:k*(q.length*prod rs)+j=j+q.length*(k*prod rs):=by
   rw[Nat.add_comm,<-Nat.mul_assoc,Nat.mul_comm k,Nat.mul_assoc]
  have e1:(k*(q.length*prod rs)+j)%q.length=j%q.length:=by rw[e0,Nat.add_mul_mod_self_left]
  have e2:(k*(q.length*prod rs)+j)/q.length=k*prod rs+j/q.length:=by rw[e0,Nat.add_mul_div_left _ _ hq,Nat.add_comm]
  show(k*(q.length*prod rs)+j)%q.length::dg rs ((k*(q.length*prod rs)+j)/q.length)=j%q.length::dg rs (j/q.length);rw[e1,e2,yR rs k _ λp hp=>h p (mem_cons_of_mem _ hp)]
theorem iX {α:Type} (f:Nat->α) (n:Nat):∀L:Nat,(List.range L).flatMap (λk=>(List.range n).map λj=>f (k*n+j))=(List.range (L*n)).map f
 |0=>by simp
 |L+1=>by
  rw[List.range_succ,List.flatMap_append,iX f n L,Nat.succ_mul,List.range_add,List.map_append,List.map_map];simp
theorem uj {α β:Type} {f g:α->List β}:∀ {l:List α},(∀a∈l,(f a).Perm (g a))->(l.flatMap f).Perm (l.flatMap g)
 |[],_=>.refl _
 |a::l,h=>by
  rw[List.flatMap_cons,List.flatMap_cons];exact(h a mem_cons_self).append (uj λb hb=>h b (mem_cons_of_mem _ hb))
theorem qq {α:Type} {P:List α->Prop} (h0:P []) (h1:∀l a,P l->P (l++[a])) (l:List α):P l:=by
 have:∀n (l:List α),l.length=n->P l:=λn=>by
  induction n with
  |zero=>intro l h;rw[List.eq_nil_of_length_eq_zero h];exact h0
  |succ n ih=>
   intro l h;have hn:l≠[]:=by intro e;rw[e]at h;cases h
   rw[<-List.dropLast_concat_getLast hn];exact h1 _ _ (ih _ (by rw[List.length_dropLast];omega))
 exact this _ l rfl
theorem yS (rs:List (List Pk)):(∀p∈rs,0<p.length)->wds rs=(List.range (prod rs)).map (dg rs):=by
 refine qq (P:=λrs=>(∀p∈rs,0<p.length)->wds rs=(List.range (prod rs)).map (dg rs)) (λ_=>rfl) (λrs p ih h=>?_) rs;have hr:∀q∈rs,0<q.length:=λq hq=>h q (mem_append_left _ hq);have hp:0<p.length:=h p (mem_append_right _ mem_cons_self);rw[fD,ih hr,bC,Nat.mul_comm,<-iX (dg (rs++[p])) (prod rs) p.length];unfold nz;rw[List.flatMap_def,List.flatMap_def];refine congrArg List.flatten (List.map_congr_left λk hk=>?_);rw[List.map_map];refine List.map_congr_left λj hj=>?_;have hk:=List.mem_range.mp hk;have hj:=List.mem_range.mp hj;show dg rs j++[k]=_;rw[oC,yR rs k j hr];have e:(k*prod rs+j)/prod rs=k:=by
  rw[Nat.add_comm,Nat.add_mul_div_right _ _ (by omega),Nat.div_eq_of_lt hj,Nat.zero_add]
 rw[e,Nat.mod_eq_of_lt hk]
abbrev p1 (rs:List (List Pk)) (w:List Nat):Sd:=pl 1 rs w (0,1)
theorem yT (b:Bool) (n k:Nat):((List.range n).map λ(j:Nat)=>((k:Int)*(n:Int)+(if b then(j:Int)else(n:Int)-1-(j:Int)))).Perm ((List.range n).map λ(j:Nat)=>((k*n+j:Nat):Int)):=by
 cases b with
 |true=>
  refine List.Perm.of_eq (List.map_congr_left λj _=>?_);simp
 |false=>
  have e:((List.range n).map λ(j:Nat)=>((k:Int)*(n:Int)+(if false=true then(j:Int)else(n:Int)-1-(j:Int))))=((List.range n).map λ(j:Nat)=>((k*n+j:Nat):Int)).reverse:=by
   apply List.ext_getElem
   ·simp
   ·intro i h1 h2;simp only[length_map,length_range]at h1;rw[List.getElem_reverse];simp only[List.getElem_map,List.getElem_range,length_map,length_range];rw[if_neg (by decide)];have:=Int.natCast_mul k n;omega
  rw[e];exact List.reverse_perm _
theorem su (rs:List (List Pk)):(∀p∈rs,0<p.length)->((wds rs).map λw=>(p1 rs w).1).Perm ((List.range (prod rs)).map λ(i:Nat)=>(i:Int)):=by
 refine qq (P:=λrs=>(∀p∈rs,0<p.length)->((wds rs).map λw=>(p1 rs w).1).Perm ((List.range (prod rs)).map λ(i:Nat)=>(i:Int))) (λ_=>.refl _) (λrs p ih h=>?_) rs;have hr:∀q∈rs,0<q.length:=λq hq=>h q (mem_append_left _ hq);rw[fD,bC,Nat.mul_comm,<-iX (λ(i:Nat)=>(i:Int)) (prod rs) p.length];unfold nz;rw[List.map_flatMap];refine uj λk hk=>?_;rw[List.map_map];have e:List.map ((λw=>(p1 (rs++[p]) w).1)∘λw=>w++[k]) (wds rs)=((wds rs).map λw=>(p1 rs w).1).map λc=>((k:Int)*(prod rs:Int)+(if(pkg p k).1 then c else(prod rs:Int)-1-c)):=by
  rw[List.map_map];refine List.map_congr_left λw hw=>?_;show(pl 1 (rs++[p]) (w++[k]) (0,1)).1=_;rw[ka 1 (0,1) p k (fU rs w hw).1,Nat.one_mul];rfl
 rw[e];refine((ih hr).map _).trans ?_;rw[List.map_map];exact yT (pkg p k).1 (prod rs) k
theorem uk:∀ (rs:List (List Pk)) (w:List Nat),w.length=rs.length->(∀q∈w.zip rs,q.1<q.2.length)->(∀p∈rs,∀a∈p,s<=a.2)->io s rs w=true
 |[],_,_,_,_=>rfl
 |_::_,[],h,_,_=>by cases h
 |p::rs,k::w,h,hz,hp=>by
  have h1:=hz (k,p) (by rw[List.zip_cons_cons];exact mem_cons_self);have e:pkg p k∈p:=by
   unfold pkg;rw[List.getD_eq_getElem?_getD,getElem?_eq_getElem h1];exact List.getElem_mem h1
  show(decide (s<=(pkg p k).2)&&io s rs w)=true;rw[decide_eq_true (hp p mem_cons_self _ e),uk rs w (Nat.succ.inj h) (λq hq=>hz q (by rw[List.zip_cons_cons];exact mem_cons_of_mem _ hq)) λq hq=>hp q (mem_cons_of_mem _ hq)];rfl
def tol (ps:List (List Pk)):List Sd:=(List.range (prod ps)).map λm=>p1 ps (dg ps m)
theorem BC (h:∀p∈ps,0<p.length) (hw:∀p∈ps,∀a∈p,(1:Int)<=a.2):sds 1 1 ps=tol ps:=by
 have e:(wds ps).filter (io 1 ps)=wds ps:=List.filter_eq_self.mpr λw hm=>uk ps w (fU ps w hm).1 (fU ps w hm).2 hw;unfold sds tol;rw[e,yS ps h,List.map_map];rfl
theorem nB (h:∀p∈ps,0<p.length):((tol ps).map (·.1)).Perm ((List.range (prod ps)).map λ(i:Nat)=>(i:Int)):=by
 have:=su ps h;rw[yS ps h,List.map_map]at this;unfold tol;rw[List.map_map];exact this
theorem sv (h:∀p∈ps,0<p.length) {T:List Sd} (h1:T.Perm (tol ps)) (h2:T.Pairwise λa b=>HT.lexLt [b.1,b.2] [a.1,a.2]=false):T.map (·.1)=(List.range (prod ps)).map λ(i:Nat)=>(i:Int):=by
 refine List.Perm.eq_of_pairwise (le:=λa b:Int=>a<=b) (λa b _ _ x y=>Int.le_antisymm x y) (List.pairwise_map.mpr (h2.imp λ{a b} z=>?_)) ?_ ((h1.map _).trans (nB h))
 ·rw[lx2]at z;have z:=of_decide_eq_false z;omega
 ·refine List.pairwise_map.mpr ((List.pairwise_lt_range).imp λ{a b} z=>?_);omega
theorem nC (h:∀p∈ps,0<p.length):((tol ps).map (·.1)).Nodup:=by
 refine(nB h).nodup_iff.mpr ?_;refine List.pairwise_map.mpr ((List.pairwise_lt_range).imp λ{a b} z=>?_);omega
end K20
namespace K20
def nxt (S:List Int) (s:Nat) (up:Bool):Nat:=if(up==decide (S.getD s 0=1))=true then s else s+1
noncomputable def pm:Nat->List Nat->List (List Nat)
 |0,_=>[[]]
 |n+1,L=>(List.range L.length).flatMap λp=>(pm n (L.eraseIdx p)).map λτ=>L.getD p 0::τ
theorem eH {L:List Nat} (h:p<L.length) (hl:L.length=n+1):(L.eraseIdx p).length=n:=by
 rw[List.length_eraseIdx_of_lt h];omega
theorem dC:∀ {L:List Nat} {p:Nat},p<L.length->(L.getD p 0::L.eraseIdx p).Perm L
 |[],_,h=>absurd h (by simp)
 |a::L,0,_=>.refl _
 |a::L,p+1,h=>by
  show(L.getD p 0::a::L.eraseIdx p).Perm (a::L);exact(List.Perm.swap _ _ _).trans ((dC (Nat.lt_of_succ_lt_succ h)).cons a)
theorem sw:∀ (n:Nat) (L:List Nat),L.length=n->∀σ,σ∈pm n L↔σ.Perm L
 |0,L,h,σ=>by
  have:L=[]:=List.eq_nil_of_length_eq_zero h;subst this;show σ∈[[]]↔_;rw[mem_singleton,List.perm_nil]
 |n+1,L,h,σ=>by
  unfold pm;rw[List.mem_flatMap];constructor
  ·rintro⟨p,hp,hσ⟩;have hp:=List.mem_range.mp hp;obtain⟨τ,hτ,rfl⟩:=List.mem_map.mp hσ;have:=(sw n _ (eH hp h) τ).mp hτ;exact(this.cons _).trans (dC hp)
  ·intro hσ;cases σ with
   |nil=>
    have:=hσ.length_eq;rw[h]at this;cases this
   |cons y τ=>
    obtain⟨p,hp,e⟩:=List.mem_iff_getElem.mp (hσ.mem_iff.mp mem_cons_self);have ey:L.getD p 0=y:=by rw[List.getD_eq_getElem?_getD,getElem?_eq_getElem hp];exact e
    refine⟨p,List.mem_range.mpr hp,List.mem_map.mpr ⟨τ,(sw n _ (eH hp h) τ).mpr ?_,by rw[ey]⟩⟩;have:=hσ.trans (dC hp).symm;rw[ey]at this;exact this.cons_inv
theorem nodup_map' {α β:Type} {f:α->β} (hf:∀a b,f a=f b->a=b) {l:List α} (h:l.Nodup):(l.map f).Nodup:=List.pairwise_map.mpr (h.imp λ{a b} hab e=>hab (hf a b e))
theorem qt:∀ (n:Nat) (L:List Nat),L.length=n->L.Nodup->(pm n L).Nodup
 |0,L,h,_=>List.pairwise_singleton _ _
 |n+1,L,h,hn=>by
  unfold pm;refine List.pairwise_flatMap.mpr ⟨λp hp=>?_,?_⟩
  ·have hp:=List.mem_range.mp hp;exact nodup_map' (λa b e=>(List.cons.inj e).2) (qt n _ (eH hp h) (hn.sublist (List.eraseIdx_sublist _ _)))
  ·refine(List.pairwise_lt_range).imp_of_mem λ{p q} hp hq hpq x hx y hy e=>?_;have hp:=List.mem_range.mp hp;have hq:=List.mem_range.mp hq;obtain⟨a,_,rfl⟩:=List.mem_map.mp hx;obtain⟨b,_,rfl⟩:=List.mem_map.mp hy;have e:=(List.cons.inj e).1;rw[List.getD_eq_getElem?_getD,List.getD_eq_getElem?_getD,getElem?_eq_getElem hp,getElem?_eq_getElem hq]at e;have:=List.pairwise_iff_getElem.mp hn p q hp hq hpq;exact this e
theorem jG {α:Type}:∀ {l m:List α},l.Nodup->m.Nodup->(∀a,a∈l↔a∈m)->l.Perm m
 |[],m,_,_,h=>by
  cases m with
  |nil=>exact .refl _
  |cons a m=>exact absurd ((h a).mpr mem_cons_self) (by simp)
 |a::l,m,hl,hm,h=>by
  obtain⟨s,t,rfl⟩:=List.append_of_mem ((h a).mp mem_cons_self);obtain⟨h1,h2⟩:=List.nodup_cons.mp hl;have p1:(s++a::t).Perm (a::(s++t)):=List.perm_middle;obtain⟨h3,h4⟩:=List.nodup_cons.mp (p1.nodup_iff.mp hm);refine((jG h2 h4 λb=>?_).cons a).trans p1.symm;constructor
  ·intro hb;rcases mem_cons.mp (p1.mem_iff.mp ((h b).mp (mem_cons_of_mem _ hb)))with rfl|hb'
   ·exact absurd hb h1
   ·exact hb'
  ·intro hb;rcases mem_cons.mp ((h b).mpr (p1.mem_iff.mpr (mem_cons_of_mem _ hb)))with rfl|hb'
   ·exact absurd hb h3
   ·exact hb'
end K20
namespace K20
noncomputable def W (S:List Int):Nat->Nat->Nat->Nat
 |0,_,_=>1
 |l+1,s,b=>((List.range (l+1)).map λp=>if nxt S s (decide (b<=p))<S.length then W S l (nxt S s (decide (b<=p))) p else 0).sum
theorem srt_at:∀ {L:List Nat} {x p:Nat},L.Pairwise (·<·)->x ∉ L->p<L.length->(x<L.getD p 0↔L.countP (λz=>decide (z<x))<=p)
 |[],x,p,_,_,h=>absurd h (by simp)
 |a::L,x,p,hs,hx,h=>by
  obtain⟨h1,h2⟩:=List.pairwise_cons.mp hs;have hxa:x≠a:=λe=>hx (e▸mem_cons_self);have hxL:x ∉ L:=λe=>hx (mem_cons_of_mem _ e);rw[List.countP_cons];by_cases c:a<x
  ·rw[if_pos (decide_eq_true c)];cases p with
   |zero=>
    show x<a↔_;omega
   |succ p=>
    show x<L.getD p 0↔_;rw[srt_at h2 hxL (Nat.lt_of_succ_lt_succ h)];omega
  ·rw[if_neg (by simpa using c)];have e:L.countP (λz=>decide (z<x))=0:=List.countP_eq_zero.mpr λz hz=>by
    have:=h1 z hz;simp only[decide_eq_true_eq];omega
   rw[e];cases p with
   |zero=>show x<a↔_;omega
   |succ p=>
    show x<L.getD p 0↔_;have hp:=Nat.lt_of_succ_lt_succ h;have:=h1 (L.getD p 0) (by rw[List.getD_eq_getElem?_getD,getElem?_eq_getElem hp];exact List.getElem_mem hp);omega
theorem yU:∀ {L:List Nat} {p:Nat},L.Pairwise (·<·)->p<L.length->(L.eraseIdx p).countP (λz=>decide (z<L.getD p 0))=p
 |[],p,_,h=>absurd h (by simp)
 |a::L,p,hs,h=>by
  obtain⟨h1,h2⟩:=List.pairwise_cons.mp hs;cases p with
  |zero=>
   show L.countP (λz=>decide (z<a))=0;exact List.countP_eq_zero.mpr λz hz=>by
    have:=h1 z hz;simp only[decide_eq_true_eq];omega
  |succ p=>
   have hp:=Nat.lt_of_succ_lt_succ h;have:=h1 (L.getD p 0) (by rw[List.getD_eq_getElem?_getD,getElem?_eq_getElem hp];exact List.getElem_mem hp);show(a::L.eraseIdx p).countP (λz=>decide (z<L.getD p 0))=p+1;rw[List.countP_cons,yU h2 hp,if_pos (decide_eq_true this)]
theorem EB {L:List Nat} (hs:L.Pairwise (·<·)) (h:p<L.length):L.getD p 0 ∉ L.eraseIdx p:=by
 have hn:L.Nodup:=hs.imp λh=>Nat.ne_of_lt h;have:=(dC h).nodup_iff.mpr hn;exact(List.nodup_cons.mp this).1
end K20
namespace K20
open PySem PySem.Spec PyProof.Rows L2
noncomputable def fE (oR:Fn):Ev->Option Out:=(ab (aj 4 evE) (ab (frF (jX (enF (x1 (va 0))) (biF noD (x1 (va 0)))) (eTp 2 (nk (eNm 5) (nk (eNm 6) wU))) (ab (ifS (au (aa leD (va 1) (aa ixD (va 6) (cI 1)))) (ab (aj 7 (evV (ifF (au (aa (aN false) (aa ixD (va 6) (cI 0)) (cS "queue"))) (cI 1) (ngF (cI 1))))) (ab (xb 4 (lsF (aq [8,9] (jX noV (va 3)) (gTp 2 (bf (gNm 8) (bf (gNm 9) e8))) tQ (tpF (x2 (aa aC (aa aL (va 5) (va 2)) (clF oR (x3 (aa ixD (va 6) (cI 0)) (va 2) (va 8)))) (aa aL (va 7) (va 9))))))) nxE)) nxE) nxE)) (ab (rtN 4) nxE)))
noncomputable def ip (fl:Str->Str->Bool) (ca cy:Fn):Ev->Option Out:=(ab (aj 3 (evC cy (x1 (slF (flF fl "passes" (va 0)) noP (cZ (va 2)))))) (ab (aj 4 (evX (lsF (dpF (x1 (tpF (x2 (aa cQ (va 3) (cI 1)) (cI 1)))))) (dpF (x1 (tpF (x2 (aa cQ (va 3) (cI 1)) (cI 1))))) (fLs (x1 (frX (tpF (x2 (aa cQ (va 3) (cI 1)) (cI 1))) noV (fTp (x2 (frX (aa cQ (va 3) (cI 1)) noV noV) (frX (cI 1) noV noV)))))))) (ab (frF (jX noV (slF (flF fl "passes" (va 0)) (cZ (va 2)) noP)) (eNm 5) (ab (aj 4 (evC ca (x4 (va 5) (va 1) (va 3) (va 4)))) (ab (aj 3 (evV (aa aL (va 3) (lnF (va 5))))) nxE))) (rtF (evX (liG (x1 (va 4)) (s1F (x1 (va 4)))) (s1F (x1 (va 4))) (fNo (x1 (va 4))))))))
theorem yV (S:List Sd):lfL (S.map sdD)=true:=bB λd hd=>by
 obtain⟨p,_,rfl⟩:=List.mem_map.mp hd;rfl
theorem yW (h:p[k]?=some a):pkg p k=a:=by unfold pkg;rw[List.getD_eq_getElem?_getD,h];rfl
theorem vE {S:List Sd} (i:Nat):((List.range i).flatMap λk=>if s<=(pkg p k).2 then S.map (bH n k (pkg p k))else[]).length<=i*S.length:=by
 induction i with
 |zero=>exact Nat.le_of_eq (by simp)
 |succ i ih=>
  rw[List.range_succ,List.flatMap_append,length_append,Nat.succ_mul];have:(List.flatMap (λk=>if s<=(pkg p k).2 then S.map (bH n k (pkg p k))else[]) [i]).length<=S.length:=by
   rw[List.flatMap_cons,List.flatMap_nil,List.append_nil];split
   ·rw[length_map];exact le_refl _
   ·exact Nat.zero_le _
  omega
noncomputable def oE (f:Fn):Prop:=∀ (p:List Pk) (s:Int) (n:Nat) (S:List Sd),p.length<=6->n<=1000->S.length<=1000->f [tpD p,.int s,iN n,.lst (S.map sdD)]=dp (.lst ((yO s n p S).map sdD))
theorem yX {la} (hl:yH la):oE (aQ 4 10 (fE la)):=λp s n S hp hn hS=>by
 have hs:az 10 [tpD p,.int s,iN n,.lst (S.map sdD)]=[sn (tpD p),sn (.int s),sn (iN n),sn (.lst (S.map sdD)),none,none,none,none,none,none]:=rfl;refine ao rfl ?_;rw[hs];unfold fE;refine fC (evX_lfs (d:=.lst []) (ds:=[]) (by simp) rfl (by simp) rfl) (yK (xs:=p.zipIdx) (mk:=λq=>.tup [.int (q.2:Nat),pkD q.1])
  (λi Y=>∃o5 o6 o7,Y=[sn (tpD p),sn (.int s),sn (iN n),sn (.lst (S.map sdD)),dp (.lst (((List.range i).flatMap λk=>if s<=(pkg p k).2 then S.map (bH n k (pkg p k))else[]).map sdD)),o5,o6,o7,none,none]) ?_ ⟨none,none,none,rfl⟩ ?_ ?_)
 ·refine HC ?_;show(seqD (tpD p)).bind (λxs=>some (kT xs))=_;rw[show seqD (tpD p)=some (p.map pkD)from rfl,Option.bind_some,vz]
 ·rintro i ⟨⟨b,w⟩,j⟩ Y hq ⟨o5,o6,o7,rfl⟩;obtain⟨hq1,hq2⟩:p[i]?=some (b,w)/\i=j:=by
   rw[List.getElem?_zipIdx]at hq;cases e:p[i]? with
   |none=>rw[e]at hq;cases hq
   |some a=>rw[e]at hq;cases hq;exact⟨rfl,by simp⟩
  subst hq2;have hi:i<p.length:=(List.getElem?_eq_some_iff.mp hq1).1;have pk:=yW hq1;have x0:ixD (pkD (b,w)) (.int 0)=some (.str (kd b)):=Cm _ _;have x1:ixD (pkD (b,w)) (.int 1)=some (.int w):=Ht _ _ _;have e1:((List.range (i+1)).flatMap λk=>if s<=(pkg p k).2 then S.map (bH n k (pkg p k))else[])=((List.range i).flatMap λk=>if s<=(pkg p k).2 then S.map (bH n k (pkg p k))else[])++(if s<=w then S.map (bH n i (b,w))else[]):=by
   rw[List.range_succ,List.flatMap_append];simp[pk]
  have hlen:=vE (s:=s) (n:=n) (p:=p) (S:=S) i;have hlen2:i*S.length<=6*1000:=Nat.mul_le_mul (by omega) hS;rw[e1];generalize ((List.range i).flatMap λk=>if s<=(pkg p k).2 then S.map (bH n k (pkg p k))else[])=T at hlen;by_cases hw:s<=w
  ·rw[if_pos hw];obtain⟨t,ht,ht1⟩:∃t:Int,(if b then 1 else -1)=t/\(t=1\/t= -1):=⟨_,rfl,by cases b<;>simp⟩;have mi:aL (iN i) (iN n)=some (.int ((i:Int)*(n:Int))):=de (by omega) (by omega);refine Bx (b:=true) (by simp[vw_o,x1,hw]) ⟨_,fC (evX_lf (d:=.int t) ?_ rfl) (J5 (vA (ds:=T.map sdD) (es:=(S.map (bH n i (b,w))).map sdD) rfl ?_ (yV _) ?_) rfl),⟨_,rfl,⟨sn (iN i),sn (pkD (b,w)),dp (.int t),?_⟩⟩⟩
   ·simp only[sB,lE,x0,yt];cases b with
    |true=>
     have e:decide (kd true="queue")=true:=by decide+kernel
     simp only[e];subst ht;rfl
    |false=>
     have e:decide (kd false="queue")=false:=by decide+kernel
     simp only[e];subst ht;rfl
   ·have hc:aq [8,9] (jX noV (va 3)) (gTp 2 (bf (gNm 8) (bf (gNm 9) e8))) tQ (tpF (x2 (aa aC (aa aL (va 5) (va 2)) (clF la (x3 (aa ixD (va 6) (cI 0)) (va 2) (va 8)))) (aa aL (va 7) (va 9))))
      [some (tpD p),some (.int s),some (iN n),some (.lst (S.map sdD)),none,some (iN i),some (pkD (b,w)),some (.int t),none,none]=some (S.map λc=>sdD (bH n i (b,w) c)):=by
     refine aM (xs:=S) (mk:=sdD) (out:=λc=>sdD (bH n i (b,w) c)) (by simp) (λc _=>?_) (lt_of_le_of_lt hS (by decide))
     have mt:aL (.int t) (.int c.2)=some (.int (t*c.2)):=se (by omega) (by omega)
     simp[sdD,mi,x0,hl b (n:Int) c.1,mt]
     cases b with
     |true=>subst ht;simp[bH,lay]
     |false=>subst ht;simp[bH,lay]
    show lsF _ [some (tpD p),some (.int s),some (iN n),some (.lst (S.map sdD)),none,some (iN i),some (pkD (b,w)),some (.int t),none,none]=_;rw[lsF_a,hc,List.map_map];rfl
   ·rw[length_map,length_map,length_map];exact lt_of_le_of_lt (show T.length+S.length<=10000 by omega) (by decide)
   ·rw[List.map_append];rfl
  ·rw[if_neg hw];refine Bx (b:=false) (by simp[vw_o,x1,hw]) ⟨_,rfl,⟨_,rfl,⟨sn (iN i),sn (pkD (b,w)),o7,?_⟩⟩⟩;rw[List.append_nil];rfl
 ·rintro Y ⟨o5,o6,o7,rfl⟩;rw[List.length_zipIdx];rfl
noncomputable def sD (f:Fn):Prop:=∀ (ps:List (List Pk)) (s:Int) (t:Nat),Valid ps->prod ps<256->t<=ps.length->∃T:List Sd,T.Perm (sds s (prod (ps.take t)) (ps.drop t))/\T.Pairwise (λa b=>HT.lexLt [b.1,b.2] [a.1,a.2]=false)/\f [af ps,.int s,iN t]=dp (.lst (T.map sdD))
theorem nD {α:Type} (l:List α) (t i:Nat) (a:α) (h:(l.drop t)[i]?=some a):(l.drop t).take (i+1)=(l.drop t).take i++[a]:=by rw[List.take_add_one,h];rfl
theorem qu (ps:List (List Pk)) (t i:Nat):prod (ps.take t)*prod ((ps.drop t).take i)=prod (ps.take (t+i)):=by rw[<-dN,List.take_add]
theorem oF (hv:Valid ps) (k:Nat):prod (ps.take k)<=prod ps:=by
 have e:prod ps=prod (ps.take k)*prod (ps.drop k):=by rw[<-dN,List.take_append_drop]
 have h1:1<=prod (ps.drop k):=by
  have:∀rs:List (List Pk),(∀p∈rs,p∈ps)->1<=prod rs:=λrs=>by
   induction rs with
   |nil=>intro _;decide
   |cons p rs ih=>intro h;exact Nat.mul_pos (hv.p (h p mem_cons_self)).1 (ih λq hq=>h q (mem_cons_of_mem _ hq))
  exact this _ λp hp=>List.mem_of_mem_drop hp
 rw[e];exact Nat.le_mul_of_pos_right _ h1
theorem lQ (hv:Valid ps) (t i:Nat):1<=prod ((ps.drop t).take i):=by
 have:∀rs:List (List Pk),(∀p∈rs,p∈ps)->1<=prod rs:=λrs=>by
  induction rs with
  |nil=>intro _;decide
  |cons p rs ih=>intro h;exact Nat.mul_pos (hv.p (h p mem_cons_self)).1 (ih λq hq=>h q (mem_cons_of_mem _ hq))
 exact this _ λp hp=>List.mem_of_mem_drop (List.mem_of_mem_take hp)
theorem EC (hv:Valid ps) (s:Int) (t i:Nat):(sds s (prod (ps.take t)) ((ps.drop t).take i)).length<=prod ps:=by
 refine Nat.le_trans (BB _ _ _) ?_;have h1:1<=prod (ps.take t):=by have:=lQ hv 0 t;rwa [List.drop_zero]at this
 refine Nat.le_trans ?_ (Nat.le_trans (Nat.le_of_eq (qu ps t i)) (oF hv (t+i)));exact Nat.le_mul_of_pos_left _ h1
theorem J7 (hf:fl "Mill" "passes"=true) (h0:fY Y 0=some (af ps)) (h1:fY Y 2=some (iN t)):slF (flF fl "passes" (va 0)) noP (cZ (va 2)) Y=some (.tup ((ps.take t).map tpD)):=by
 unfold slF orO uY;simp[h0,h1,qi hf,aK,lM]
theorem J8 (hf:fl "Mill" "passes"=true) (h0:fY Y 0=some (af ps)) (h1:fY Y 2=some (iN t)):slF (flF fl "passes" (va 0)) (cZ (va 2)) noP Y=some (.tup ((ps.drop t).map tpD)):=by
 unfold slF orO uY;simp[h0,h1,qi hf,aK,yE]
theorem vF (hc:lL co) (hp:∀p∈ps,p.length<1000):co [.tup (ps.map tpD)]=dp (.int (prod ps:Nat)):=by
 have i1:(ps.map λp=>(false,p)).map (·.2)=ps:=by rw[List.map_map];exact List.map_id ps
 have i2:(ps.map λp=>(false,p)).map paD=ps.map tpD:=by rw[List.map_map];rfl
 have q:=hc false (ps.map λp=>(false,p)) λp hp'=>by
  obtain⟨r,hr,rfl⟩:=List.mem_map.mp hp';exact hp r hr
 rw[i1,i2]at q;exact q
theorem BD (hfl:fl "Mill" "passes"=true) (hsb:oE sb) (hco:lL co):sD (aQ 3 6 (ip fl sb co)):=λps s t hv h64 ht=>by
 have hs:az 6 [af ps,.int s,iN t]=[sn (af ps),sn (.int s),sn (iN t),none,none,none]:=rfl;obtain⟨n0,hn0⟩:∃n,n=prod (ps.take t):=⟨_,rfl⟩;have ec:co [.tup ((ps.take t).map tpD)]=dp (.int (n0:Nat)):=by rw[hn0];exact vF hco λp hp=>by have:=(hv.p (List.mem_of_mem_take hp)).2.1;omega
 have hle:∀i,n0*prod ((ps.drop t).take i)<=prod ps:=λi=>by rw[hn0,qu];exact oF hv _
 have hsl:∀i,(sds s n0 ((ps.drop t).take i)).length<=prod ps:=λi=>by rw[hn0];exact EC hv s t i
 obtain⟨T,h1,h2,h3⟩:=Bz (S:=sds s n0 (ps.drop t)) (by have:=hsl (ps.drop t).length;rw[List.take_length]at this;omega);rw[<-hn0];refine⟨T,h1,h2,ao rfl ?_⟩;rw[hs];unfold ip;refine fC (evX_lf (d:=iN n0) ?_ rfl) (fC (evX_lfs (d:=.lst [sdD ((n0:Int)-1,1)]) (ds:=[sdD ((n0:Int)-1,1)]) ?_ rfl ?_ rfl) (yK (xs:=ps.drop t) (mk:=tpD)
  (λi Y=>∃o5,Y=[sn (af ps),sn (.int s),sn (iN t),dp (iN (n0*prod ((ps.drop t).take i))),dp (.lst ((sds s n0 ((ps.drop t).take i)).map sdD)),o5]) ?_ ⟨none,?_⟩ ?_ ?_))
 ·have e:=J7 hfl (Y:=[some (af ps),some (.int s),some (iN t),none,none,none]) (ps:=ps) (t:=t) rfl rfl;simp only[sB,e,ec]
 ·simp[sdD]
 ·simp[sdD]
 ·show jX noV _ (shv _)=_;rw[db,J8 hfl rfl rfl];rfl
 ·have e:n0*prod ((ps.drop t).take 0)=n0:=Nat.mul_one n0;rw[e];rfl
 ·rintro i p Y hp ⟨o5,rfl⟩;have hpm:p∈ps:=List.mem_of_mem_drop (mem_of_getElem? hp);have hl6:=(hv.p hpm).2.1;have hb:=hle i;have hc:=hv.codes;have e:=hsb p s (n0*prod ((ps.drop t).take i)) (sds s n0 ((ps.drop t).take i)) hl6 (by omega) (by have:=hsl i;omega);rw[<-yP,<-nD ps t i p hp]at e;refine⟨_,fC (evX_call (d:=.lst ((sds s n0 ((ps.drop t).take (i+1))).map sdD)) (e:=.lst ((sds s n0 ((ps.drop t).take (i+1))).map sdD)) ?_ rfl rfl ?_) (fC (evX_lf (d:=iN (n0*prod ((ps.drop t).take i)*p.length)) ?_ rfl) rfl),⟨sn (tpD p),?_⟩⟩
  ·simp only[sB,e]
  ·simp only[sB,e,rZ]
  ·have y:seqD (tpD p)=some (p.map pkD):=rfl;simp only[sB,b8,y,length_map,uf (show n0*prod ((ps.drop t).take i)<1000000 by omega)]
  ·rw[nD ps t i p hp,bC,<-Nat.mul_assoc];rfl
 ·rintro Y ⟨o5,rfl⟩;rw[List.take_length];have s1:s1F (x1 (va 4)) (vw [sn (af ps),sn (.int s),sn (iN t),dp (iN (n0*prod (ps.drop t))),dp (.lst ((sds s n0 (ps.drop t)).map sdD)),o5])=some (T.map sdD):=by
   show(x1 (va 4) _).bind bT=_;simp only[sB,h3]
  refine c6 (evX_lfs (d:=.lst (T.map sdD)) (ds:=T.map sdD) (jF s1) rfl s1 (yV T))
end K20
namespace K20
open PySem PySem.Spec PyProof.Rows L2
noncomputable def ul (bD bE:Fn):Ev->Option Out:=(ab (nj (clF bE (x1 (va 0)))) (rtF (evX (lsF (aq [1,2] (jX noV (clF bD (x3 (va 0) (cI 1) (cI 0)))) (gTp 2 (bf (gNm 1) (bf (gNm 2) e8))) tQ (va 2))) (aq [1,2] (jX noV (clF bD (x3 (va 0) (cI 1) (cI 0)))) (gTp 2 (bf (gNm 1) (bf (gNm 2) e8))) tQ (va 2)) (fCo [1,2] (jX noV (clF bD (x3 (va 0) (cI 1) (cI 0)))) (gTp 2 (bf (gNm 1) (bf (gNm 2) e8))) tQ (frX (va 2) noV noV)))))
noncomputable def eM:Ev->Option Out:=(ab (aj 1 (evX noV noV dcN)) (ab (aj 2 (evV (cI 1))) (ab (frF (jX noV (va 0)) (eNm 3) (ab (aj 2 (evV (aa aL (va 2) (lnF (va 3))))) nxE)) (ab (frF (jR (x1 (va 2))) (eNm 4) (ab (aj 5 (evM 4 (evV (va 4)))) (ab (aj 6 (evV (cI 0))) (ab (aj 7 (evV (cI 1))) (ab (aj 8 (evV (cI 1))) (ab (frF (jX noV (va 0)) (eNm 3) (ab (aj 9 (evV (aa bj (va 5) (lnF (va 3))))) (ab (aj 5 (evV (aa jL (va 5) (lnF (va 3))))) (ab (ifS (au (aa (aN false) (aa ixD (aa ixD (va 3) (va 9)) (cI 0)) (cS "pile"))) (ab (aj 6 (evV (aa cQ (aa cQ (va 7) (cI 1)) (va 6)))) (ab (aj 8 (evV (ngF (va 8)))) nxE)) nxE) (ab (aj 6 (evX (aa aC (aa aL (va 9) (va 7)) (va 6)) (pQ (aa aL (va 9) (va 7)) (va 6)) noV)) (ab (aj 7 (evV (aa aL (va 7) (lnF (va 3))))) nxE)))))) (ab (p9 1 (va 6) (evV (va 8)) (va 8)) nxE))))))) (rtF (evX (lsF (aq [6] (jR (x1 (va 2))) (gNm 6) tQ (aa ixD (va 1) (va 6)))) (aq [6] (jR (x1 (va 2))) (gNm 6) tQ (aa ixD (va 1) (va 6))) (fCo [6] (jR (x1 (va 2))) (gNm 6) tQ (frX (aa ixD (va 1) (va 6)) noV noV))))))))
theorem BE {α:Type} {Y1:Ev} {out:α->Option Out} {P:α->Prop} (h:o=some Y1) (k:∃a,F Y1=out a/\P a):∃a,o.bind F=out a/\P a:=by rw[h];exact k
noncomputable def sE (f:Fn):Prop:=∀ps:List (List Pk),Valid ps->Wide ps->prod ps<256->∃T:List Sd,T.Perm (tol ps)/\T.Pairwise (λa b=>HT.lexLt [b.1,b.2] [a.1,a.2]=false)/\f [af ps]=dp (.lst ((T.map (·.2)).map D.int))
theorem oG (S:List Int):lfL (S.map D.int)=true:=bB λd hd=>by
 obtain⟨p,_,rfl⟩:=List.mem_map.mp hd;rfl
theorem kb (hv:Valid ps):∀p∈ps,0<p.length:=λp hp=>(hv.p hp).1
theorem BF {os lw} (hos:sD os) (hlw:Ey lw):sE (aQ 1 3 (ul os lw)):=λps hv hw hp=>by
 have hs:az 3 [af ps]=[sn (af ps),none,none]:=rfl;obtain⟨T,h1,h2,h3⟩:=hos ps 1 0 hv hp (Nat.zero_le _);have h1:T.Perm (sds 1 1 ps):=h1;have h3:os [af ps,.int 1,.int 0]=dp (.lst (T.map sdD)):=h3;rw[BC (kb hv) hw]at h1;have hT:T.length<big:=by
  rw[h1.length_eq];unfold tol;rw[length_map,length_range];exact Nat.lt_trans hp (by decide)
 have hc:aq [1,2] (jX noV (clF os (x3 (va 0) (cI 1) (cI 0)))) (gTp 2 (bf (gNm 1) (bf (gNm 2) e8))) tQ (va 2) [some (af ps),none,none]=some ((T.map (·.2)).map D.int):=by
  rw[List.map_map];refine aM (xs:=T) (mk:=sdD) (out:=λc=>D.int c.2) ?_ (λc _=>?_) hT
  ·simp only[sB,db,h3,iV]
  ·simp[sdD]
 refine⟨T,h1,h2,ao rfl ?_⟩;rw[hs];unfold ul;refine Ew (d:=.non) ?_ (c6 (evX_lfs (d:=.lst ((T.map (·.2)).map D.int)) (ds:=(T.map (·.2)).map D.int) ?_ rfl ?_ (oG _)))
 ·simp only[sB,hlw ps hv hw]
 ·show lsF _ [some (af ps),none,none]=_;rw[lsF_a,hc];rfl
 ·exact hc
def dkD (W:List Sd):D:=.dct (W.map λq=>Sum.inl q.1) (W.map λq=>.int q.2)
theorem BG {W:List Sd} (h:a ∉ W.map (·.1)):kU (W.map λq=>Sum.inl q.1) (.inl a)=false:=by
 unfold kU;rw[List.any_map,List.any_eq_false];intro q hq;simp only[Function.comp_apply,decide_eq_true_eq];intro e;cases e;exact h (List.mem_map.mpr ⟨q,hq,rfl⟩)
theorem HL (W:List Sd):lfL (W.map λq=>D.int q.2)=true:=bB λd hd=>by
 obtain⟨p,_,rfl⟩:=List.mem_map.mp hd;rfl
theorem BH {R L Sp} {W} (hY:fZ Y i=dp (dkD W)) (hk:k (vw Y)=some (.int q.1)) (hR:R (vw Y)=some (.int q.2)) (hn:q.1 ∉ W.map (·.1)) (hl:W.length<1000):
  p9 i k (evX R L Sp) R Y=some (.nx (Y.set i (dp (dkD (W++[q]))))):=by
 unfold p9 xi
 rw[show jN Y i=some (W.map λq=>Sum.inl q.1,W.map λq=>D.int q.2)by unfold jN;rw[hY];rfl,hR,hk]
 show(if lfL (W.map λq=>D.int q.2)=true/\(W.map λq:Sd=>(Sum.inl q.1:Key)).length+1<big then _ else _)=_
 rw[if_pos ⟨HL W,by rw[length_map];exact lt_of_le_of_lt (show W.length+1<=1000 by omega) (by decide)⟩]
 unfold np jx dkD
 rw[BG hn,List.map_append,List.map_append]
 rfl
theorem yY:∀ {W:List Sd} {q:Sd},q∈W->(W.map (·.1)).Nodup->pJ (W.map λq=>Sum.inl q.1) (W.map λq=>.int q.2) (.inl q.1)=some (.int q.2)
 |[],_,h,_=>nomatch h
 |p::W,q,h,hn=>by
  rw[List.map_cons]at hn;obtain⟨h1,h2⟩:=List.nodup_cons.mp hn;show(if(Sum.inl p.1:Key)=.inl q.1 then some (D.int p.2)else pJ (W.map λq=>Sum.inl q.1) (W.map λq=>.int q.2) (.inl q.1))=_;rcases mem_cons.mp h with rfl|h
  ·rw[if_pos rfl]
  ·rw[if_neg λe=>?_,yY h h2];have e:p.1=q.1:=Sum.inl.inj e;exact h1 (by rw[e];exact List.mem_map.mpr ⟨q,h,rfl⟩)
theorem HM {W} (h:q∈W) (hn:(W.map (·.1)).Nodup):ixD (dkD W) (.int q.1)=some (.int q.2):=yY h hn
def stt (ps:List (List Pk)) (i m:Nat):Sd:=p1 (ps.take i) (dg (ps.take i) m)
theorem yZ (h:ps[i]?=some p):stt ps (i+1) m=bH (prod (ps.take i)) (m/prod (ps.take i)%p.length) (pkg p (m/prod (ps.take i)%p.length)) (stt ps i m):=by
 unfold stt p1;rw[List.take_add_one,h];show pl 1 (ps.take i++[p]) (dg (ps.take i++[p]) m) (0,1)=_;rw[oC,ka 1 (0,1) p _ (yQ _ _),Nat.one_mul]
theorem ED (h:m<prod ps):(tol ps)[m]?=some (stt ps ps.length m):=by
 unfold tol stt;rw[getElem?_map,List.getElem?_range h,List.take_length];rfl
theorem qv (h:m<prod ps):(tol ps).take (m+1)=(tol ps).take m++[stt ps ps.length m]:=by
 rw[List.take_add_one,ED h];rfl
theorem BI (hv:Valid ps) (h:m<prod ps):(stt ps ps.length m).1 ∉ ((tol ps).take m).map (·.1):=λhm=>by
 have hn:=nC (kb hv);have e:(tol ps).map (·.1)=((tol ps).take (m+1)).map (·.1)++((tol ps).drop (m+1)).map (·.1):=by rw[<-List.map_append,List.take_append_drop]
 rw[e,qv h,List.map_append]at hn;have h1:=(List.nodup_append.mp hn).1;have h2:=(List.nodup_append.mp h1).2.2;exact h2 _ hm _ mem_cons_self rfl
theorem BJ (b:Bool):decide (kd b="pile")=!b:=by cases b<;>decide+kernel
noncomputable def sLF (f:Fn):Prop:=∀ (ps:List (List Pk)) (S:List Int),Valid ps->prod ps<256->S.length=prod ps->(∀i,i<prod ps->((i:Int),S.getD i 0)∈tol ps)->f [aK ps]=dp (.lst (S.map D.int))
theorem J9:sLF (aQ 1 10 eM):=λps S hv h2 hl hS=>by
 have hs:az 10 [aK ps]=[sn (aK ps),none,none,none,none,none,none,none,none,none]:=rfl;have y:seqD (aK ps)=some (ps.map tpD):=rfl;have hpi:∀i,prod (ps.take i)<256:=λi=>lt_of_le_of_lt (oF hv i) h2;have hpp:∀i,1<=prod (ps.take i):=λi=>by have:=lQ hv 0 i;rwa [List.drop_zero]at this
 have hlen:∀ (i:Nat) (p:List Pk),ps[i]?=some p->1<=p.length/\p.length<=6:=λi p h=>⟨(hv.p (mem_of_getElem? h)).1,(hv.p (mem_of_getElem? h)).2.1⟩;have psn:∀ (i:Nat) (p:List Pk),ps[i]?=some p->prod (ps.take (i+1))=prod (ps.take i)*p.length:=λi p h=>by
  rw[List.take_add_one,h];exact bC _ _
 have fin:∃a:Unit,eM [sn (aK ps),none,none,none,none,none,none,none,none,none]=some (.rt (.deep,.lst (S.map D.int)))/\True:=by
  unfold eM;refine av (s:=(.deep,.dct [] [])) (Y':=[sn (aK ps),none,none,none,none,none,none,none,none,none]) rfl (av (evX_lf (d:=.int 1) rfl rfl) (uh (xs:=ps) (mk:=tpD) (λi Y=>∃o3,Y=[sn (aK ps),dp (.dct [] []),dp (.int (prod (ps.take i):Nat)),o3,none,none,none,none,none,none]) ?_ ⟨none,rfl⟩ ?_ ?_))
  ·show(va 0 [some (aK ps),none,some (.int 1),none,none,none,none,none,none,none]).bind seqD=_;rw[va_a,shAt_0,Option.bind_some,y]
  ·rintro i p Y hp ⟨o3,rfl⟩;have sp:seqD (tpD p)=some (p.map pkD):=rfl;refine BE (Y1:=[sn (aK ps),dp (.dct [] []),dp (.int (prod (ps.take i):Nat)),sn (tpD p),none,none,none,none,none,none]) rfl (av (evX_lf (d:=iN (prod (ps.take i)*p.length)) ?_ rfl) (gf ⟨sn (tpD p),?_⟩))
   ·simp only[sB,b8,sp,length_map,uf (show prod (ps.take i)<1000000 by have:=hpi i;omega)]
   ·rw[psn i p hp];rfl
  ·rintro Y ⟨o3,rfl⟩;rw[List.take_length];refine qo (n:=prod ps) (v:=λi=>(i:Int)) (λm Y=>∃o3 o4 o5 o6 o7 o8 o9,Y=[sn (aK ps),dp (dkD ((tol ps).take m)),dp (.int (prod ps:Nat)),o3,o4,o5,o6,o7,o8,o9]) ?_ ⟨o3,none,none,none,none,none,none,rfl⟩ ?_ ?_
   ·refine fA ?_;show(x1 (va 2) [some (aK ps),none,some (.int (prod ps:Nat)),Aw o3,none,none,none,none,none,none]).bind kP=_;simp only[sB];exact bv (by omega)
   ·rintro m Y hm ⟨o3,o4,o5,o6,o7,o8,o9,rfl⟩;have st0:stt ps 0 m=(0,1):=by unfold stt p1;rw[List.take_zero];rfl
    refine av (evM_lf (d:=iN m) rfl rfl rfl) (av (evX_lf (d:=.int 0) rfl rfl) (av (evX_lf (d:=.int 1) rfl rfl) (av (evX_lf (d:=.int 1) rfl rfl)
     (uh (xs:=ps) (mk:=tpD) (λi Y=>∃o3 o9,Y=[sn (aK ps),dp (dkD ((tol ps).take m)),dp (.int (prod ps:Nat)),o3,sn (iN m),dp (iN (m/prod (ps.take i))),dp (.int (stt ps i m).1),dp (.int (prod (ps.take i):Nat)),dp (.int (stt ps i m).2),o9]) ?_ ⟨o3,o9,?_⟩ ?_ ?_))))
    ·show(va 0 [some (aK ps),none,some (.int (prod ps:Nat)),Aw o3,some (iN m),some (iN m),some (.int 0),some (.int 1),some (.int 1),Aw o9]).bind seqD=_;rw[va_a,shAt_0,Option.bind_some,y]
    ·rw[st0,List.take_zero,show prod []=1 from rfl,Nat.div_one];rfl
    ·rintro i p Y hp ⟨o3,o9,rfl⟩;have sp:seqD (tpD p)=some (p.map pkD):=rfl;obtain⟨l1,l6⟩:=hlen i p hp;have hpi:=hpi i;have hpp:=hpp i;rw[yZ hp,psn i p hp,<-Nat.div_div_eq_div_mul];have hk:m/prod (ps.take i)%p.length<p.length:=Nat.mod_lt _ l1;have em:bj (iN (m/prod (ps.take i))) (.int (p.length:Int))=some (iN (m/prod (ps.take i)%p.length)):=dL (show(0:Int)<(p.length:Int)by omega);have ed:jL (iN (m/prod (ps.take i))) (.int (p.length:Int))=some (iN (m/prod (ps.take i)/p.length)):=j9 (show(0:Int)<(p.length:Int)by omega) (by omega);generalize m/prod (ps.take i)%p.length=k at hk em;generalize m/prod (ps.take i)/p.length=l at ed;generalize m/prod (ps.take i)=l0 at em ed;generalize prod (ps.take i)=n at hpi hpp;obtain⟨⟨b,w⟩,hb⟩:∃a,p[k]?=some a:=⟨_,getElem?_eq_getElem hk⟩;have pk:=yW hb;rw[pk];obtain⟨c,s⟩:=stt ps i m;have f3:ixD (tpD p) (iN k)=some (pkD (b,w)):=bL hb;have x0:ixD (pkD (b,w)) (.int 0)=some (.str (kd b)):=Cm _ _;have mk:aL (iN k) (iN n)=some (.int ((k:Int)*(n:Int))):=de (by omega) (by omega);have mn:aL (iN n) (.int (p.length:Int))=some (iN (n*p.length)):=uf (by omega);refine BE (Y1:=[sn (aK ps),dp (dkD ((tol ps).take m)),dp (.int (prod ps:Nat)),sn (tpD p),sn (iN m),dp (iN l0),dp (.int c),dp (iN n),dp (.int s),o9]) rfl
      (av (evX_lf (d:=iN k) ?_ rfl) (av (evX_lf (d:=iN l) ?_ rfl) (Bx (b:=!b) ?_ ⟨[sn (aK ps),dp (dkD ((tol ps).take m)),dp (.int (prod ps:Nat)),sn (tpD p),sn (iN m),dp (iN l),dp (.int (if b then c else(n:Int)-1-c)),dp (iN n),dp (.int (if b then s else -s)),dp (iN k)],?_,
       av (evX_lf (d:=.int ((k:Int)*(n:Int)+(if b then c else(n:Int)-1-c))) ?_ rfl) (av (evX_lf (d:=iN (n*p.length)) ?_ rfl) (gf ⟨sn (tpD p),dp (iN k),rfl⟩))⟩)))
     ·simp only[sB,b8,sp,length_map,em]
     ·simp only[sB,b8,sp,length_map,ed]
     ·simp only[sB,f3,x0,yt,BJ];rfl
     ·cases b with
      |true=>rfl
      |false=>
       show ab _ _ _=_;refine fC (evX_lf (d:=.int ((n:Int)-1-c)) ?_ rfl) (fC (evX_lf (d:=.int (-s)) ?_ rfl) rfl)
       ·simp only[sB]
       ·simp only[sB,yk,r9]
     ·simp only[sB,mk]
     ·simp only[sB,b8,sp,length_map,mn]
    ·rintro Y ⟨o3,o9,rfl⟩;rw[qv hm];refine qp (BH (W:=(tol ps).take m) (q:=stt ps ps.length m) rfl rfl rfl (BI hv hm) ?_) ⟨_,_,_,_,_,_,_,rfl⟩;rw[List.length_take];omega
   ·rintro Y ⟨o3,o4,o5,o6,o7,o8,o9,rfl⟩;have hll:(tol ps).length=prod ps:=by unfold tol;rw[length_map,length_range]
    rw[<-hll,List.take_length,hll];have hc:∀o3 o4 o5 o6 o7 o8 o9:Option D,aq [6] (jR (x1 (va 2))) (gNm 6) tQ (aa ixD (va 1) (va 6)) [some (aK ps),some (dkD (tol ps)),some (.int (prod ps:Nat)),o3,o4,o5,o6,o7,o8,o9]=some (S.map D.int):=λo3 o4 o5 o6 o7 o8 o9=>by
     have e:S.map D.int=(List.range (prod ps)).map λi=>D.int (S.getD i 0):=by
      rw[<-hl];conv=>lhs;rw[<-bY 0 S]
      rw[List.map_map];rfl
     rw[e];refine aM (xs:=List.range (prod ps)) (mk:=λ(i:Nat)=>D.int (i:Int)) (out:=λi=>D.int (S.getD i 0)) (fA ?_) (λi hi=>?_) (by rw[length_range];exact Nat.lt_trans h2 (by decide))
     ·simp only[sB];exact bv (by omega)
     ·have:=HM (hS i (List.mem_range.mp hi)) (nC (kb hv));simp only[sB,this]
    refine⟨(),c6 (evX_lfs (d:=.lst (S.map D.int)) (ds:=S.map D.int) ?_ rfl ?_ (oG _)),trivial⟩
    ·simp only[sB,hc]
    ·simp only[sB,hc]
 obtain⟨_,fin,_⟩:=fin;exact ao rfl (by rw[hs];exact fin)
end K20
namespace K20
open PySem PySem.Spec PyProof.Rows L2
def nE:Ev->Option Out:=(rtF (evV (aa (aN false) (va 1) (aa (aN false) (va 0) (cI 1)))))
noncomputable def jH (dj iB bF:Fn):Ev->Option Out:=(ab (aj 2 (evC bF (x1 (va 0)))) (ab (ifS (bP (trF (clF iB (x1 (va 1))))) (ab noO' nxE) nxE) (ab (aj 3 evE) (ab (frF (jX noV (va 1)) (eNm 4) (ab (ifS (uP (au (aa gtD (lnF (va 3)) (cI 0))) (trF (clF dj (x2 (aa ixD (va 2) (aa cQ (lnF (va 3)) (cI 1))) (aa gtD (va 4) (aa ixD (aa ixD (va 3) (ngF (cI 1))) (ngF (cI 1)))))))) (ab (vb 3 (ngF (cI 1)) (va 4)) nxE) (ab (ifS (au (aa ltD (lnF (va 3)) (lnF (va 2)))) (ab (iM 3 (evX (lsF (dpF (x1 (va 4)))) (dpF (x1 (va 4))) (fLs (x1 (frX (va 4) noV noV))))) nxE) (rtF (evV cN))) nxE)) nxE)) (ab (rtN 3) nxE)))))
def nF (dP:Fn):Ev->Option Out:=(rtF (evV (aa (wL true) (clF dP (x2 (va 0) (va 1))) cN)))
def la (F:List (List Nat)):List Nat:=F.getD (F.length-1) []
def lx (F:List (List Nat)):Nat:=(la F).getD ((la F).length-1) 0
noncomputable def okG (S:List Int) (F:List (List Nat)) (x:Nat):Bool:=decide (0<F.length)&&(decide (lx F<x)==decide (S.getD (F.length-1) 0=1))
noncomputable def grow (S:List Int) (F:List (List Nat)) (x:Nat):Option (List (List Nat)):=
 if okG S F x=true then some (F.set (F.length-1) (la F++[x]))else if F.length<S.length then some (F++[[x]])else none
def eN (S:List Int) (r:List Nat):Option (List (List Nat)):=r.foldlM (grow S) []
def HN:Option (List (List Nat))->D
 |some F=>.lst (F.map rowD)
 |none=>.non
structure Gd (S:List Int) (k:Nat) (F:List (List Nat)):Prop where
 ne:∀p∈F,0<p.length
 le:F.length<=S.length
 lk:F.length<=k
 ll:∀p∈F,p.length<=k
theorem sF (h:0<F.length):la F∈F:=by
 unfold la;rw[List.getD_eq_getElem?_getD,getElem?_eq_getElem (show F.length-1<F.length by omega)];exact List.getElem_mem _
theorem y3 {F:List (List Nat)} (h:0<F.length):la (F.set (F.length-1) p)=p:=by
 unfold la;rw[List.length_set,List.getD_eq_getElem?_getD,List.getElem?_set_self (by omega)];rfl
theorem um (F:List (List Nat)) (p:List Nat):la (F++[p])=p:=by
 unfold la;rw[length_append,List.getD_eq_getElem?_getD];show((F++[p])[F.length+1-1]?).getD []=p;rw[Nat.add_sub_cancel,getElem?_append_right (le_refl _),Nat.sub_self];rfl
theorem nH (p:List Nat) (x:Nat):(p++[x]).getD ((p++[x]).length-1) 0=x:=by
 rw[length_append,List.getD_eq_getElem?_getD];show((p++[x])[p.length+1-1]?).getD 0=x;rw[Nat.add_sub_cancel,getElem?_append_right (le_refl _),Nat.sub_self];rfl
theorem ke (h:okG S F x=true):0<F.length:=by
 unfold okG at h;rw[and_eq_true]at h;exact of_decide_eq_true h.1
theorem fV (g:Gd S k F) (h:grow S F x=some F'):Gd S (k+1) F'/\0<F'.length/\lx F'=x:=by
 have gk:=g.lk;unfold grow at h;by_cases c:okG S F x=true
 ·rw[if_pos c]at h;cases h;have hp:=ke c;have hm:=g.ll _ (sF hp);refine⟨⟨λp hp=>?_,by rw[List.length_set];exact g.le,by rw[List.length_set];omega,λp hp=>?_⟩,by rw[List.length_set];exact hp,?_⟩
  ·rcases List.mem_or_eq_of_mem_set hp with hp|rfl
   ·exact g.ne p hp
   ·rw[length_append];exact Nat.succ_pos _
  ·rcases List.mem_or_eq_of_mem_set hp with hp|rfl
   ·have:=g.ll p hp;omega
   ·rw[length_append];show _+1<=_;omega
  ·unfold lx;rw[y3 hp];exact nH _ _
 ·rw[if_neg c]at h;by_cases l:F.length<S.length
  ·rw[if_pos l]at h;cases h;refine⟨⟨λp hp=>?_,by rw[length_append];exact l,by rw[length_append];show _+1<=_;omega,λp hp=>?_⟩,by rw[length_append];exact Nat.succ_pos _,?_⟩
   ·rcases mem_append.mp hp with hp|hp
    ·exact g.ne p hp
    ·cases mem_singleton.mp hp;exact Nat.one_pos
   ·rcases mem_append.mp hp with hp|hp
    ·have:=g.ll p hp;omega
    ·cases mem_singleton.mp hp;show 1<=k+1;omega
   ·unfold lx;rw[um];rfl
  ·rw[if_neg l]at h;cases h
theorem gd0 (S:List Int):Gd S 0 []:=⟨λ_ h=>(nomatch h),Nat.zero_le _,le_refl _,λ_ h=>(nomatch h)⟩
theorem qw {α σ:Type} {step} {mk} (g:σ->α->Option σ) (I:Nat->σ->Ev->Prop):∀ (xs:List α) (i:Nat) (s:σ) (Y:Ev),I i s Y->
  (∀j x s Y,xs[j]?=some x->I (i+j) s Y->(∀s',g s x=some s'->∃Y',step (mk x) Y=some (.nx Y')/\I (i+j+1) s' Y')/\(g s x=none->step (mk x) Y=some (.rt r)))->
  (∀s',xs.foldlM g s=some s'->∃Y',hW step (xs.map mk) Y=some (.nx Y')/\I (i+xs.length) s' Y')/\(xs.foldlM g s=none->hW step (xs.map mk) Y=some (.rt r))
 |[],i,s,Y,h,_=>⟨λs' e=>by cases e;exact⟨Y,rfl,h⟩,λe=>by cases e⟩
 |x::xs,i,s,Y,h,hs=>by
  obtain⟨h1,h2⟩:=hs 0 x s Y rfl h;rw[List.foldlM_cons,List.map_cons];unfold hW;cases e:g s x with
  |none=>
   rw[h2 e];exact⟨λs' z=>(nomatch z),λ_=>rfl⟩
  |some s1=>
   obtain⟨Y1,e1,i1⟩:=h1 s1 e;rw[e1];have:=qw g I xs (i+1) s1 Y1 i1 (λj y s Y hy hi=>by
    have:=hs (j+1) y s Y (by simpa using hy) (by rwa [show i+(j+1)=i+1+j by omega]);rwa [show i+(j+1)+1=i+1+j+1 by omega]at this)
   rw[show i+1+xs.length=i+(x::xs).length by rw[length_cons];omega]at this;exact this
theorem y4 (h:0<n):ixN n (-1)=some (n-1):=by
 unfold ixN;rw[if_neg (by decide),if_pos (by omega)];exact congrArg some (by omega)
theorem Co {β:Type} {xs:List β} {mk} {x0} (h:0<xs.length):ixD (.lst (xs.map mk)) (.int (-1))=some (mk (xs.getD (xs.length-1) x0)):=by
 show atI (xs.map mk) (-1)=_;unfold atI;rw[length_map,y4 h,Option.bind_some,getElem?_map,List.getD_eq_getElem?_getD,getElem?_eq_getElem (show xs.length-1<xs.length by omega)];rfl
theorem qx {β:Type} {xs:List β} {mk} {x0} (h:i<xs.length) (hz:z=(i:Int)):ixD (.lst (xs.map mk)) (.int z)=some (mk (xs.getD i x0)):=by
 subst hz;refine bL ?_;rw[List.getD_eq_getElem?_getD,getElem?_eq_getElem h];rfl
theorem EE (h0:eE Y i=some (.deep,F.map rowD)) (hF:0<F.length) (hl:(la F).length<1000) (hR:R (shv Y)=some (iN x)):
  vb i (ngF (cI 1)) R Y=some (.nx (Y.set i (dp (.lst ((F.set (F.length-1) (la F++[x])).map rowD))))):=by
 have e1:f8 Y i=some (F.map rowD):=by
  unfold f8;rw[h0];rfl
 have e3:(F.map rowD)[F.length-1]?=some (rowD (la F)):=by
  rw[getElem?_map,getElem?_eq_getElem (show F.length-1<F.length by omega)];unfold la;rw[List.getD_eq_getElem?_getD,getElem?_eq_getElem (show F.length-1<F.length by omega)];rfl
 unfold vb
 rw[e1]
 show(ixN (F.map rowD).length (-1)).bind _=_
 rw[length_map,y4 hF,Option.bind_some,e3,Option.bind_some]
 show(eV (.lst ((la F).map λ(k:Nat)=>D.int (k:Int)))).bind _=_
 show(lfO (R (shv Y))).bind _=_
 rw[hR]
 show(if((la F).map λ(k:Nat)=>D.int (k:Int)).length+1<big then _ else _)=_
 rw[if_pos (by rw[length_map];exact lt_of_le_of_lt (show(la F).length+1<=1000 by omega) (by decide)),List.map_set]
 show some (Out.nx (Y.set i (some (Cat.deep,D.lst ((F.map rowD).set (F.length-1) (D.lst (((la F).map λ(k:Nat)=>D.int (k:Int))++[iN x])))))))=some (Out.nx (Y.set i (some (Cat.deep,D.lst ((F.map rowD).set (F.length-1) (rowD (la F++[x])))))))
 unfold rowD
 rw[List.map_append];rfl
theorem eq_bb (a b:Bool):aN false (.bl a) (.bl b)=some (.bl (a==b)):=by cases a<;>cases b<;>rfl
def sGo (f:Fn):Prop:=∀ (s:Int) (b:Bool),f [.int s,.bl b]=dp (.bl (b==decide (s=1)))
theorem Ka:sGo (aQ 2 2 nE):=λs b=>by
 refine ao rfl ?_;unfold nE;refine c6 (evX_lf (d:=.bl (b==decide (s=1))) ?_ rfl);show aa (aN false) (va 1) (aa (aN false) (va 0) (cI 1)) [some (.int s),some (.bl b)]=_;simp only[sB,jC,eq_bb];rfl
noncomputable def EF (fa f:Fn):Prop:=∀ (ps:List (List Pk)) (S:List Int) (r:List Nat) (n:Nat),fa [af ps]=dp (.lst (S.map D.int))->r.Perm (List.range n)->n<=24->f [af ps,rowD r]=dp (HN (eN S r))
theorem iq (F:List (List Nat)):cq [.lst (F.map rowD)]=some (.int (F.length:Int)):=by rw[b8,iV,Option.bind_some,length_map]
theorem iw (S:List Int):cq [.lst (S.map D.int)]=some (.int (S.length:Int)):=by rw[b8,iV,Option.bind_some,length_map]
theorem HP (n:Nat):gtD (iN n) (.int 0)=some (.bl (decide (0<n))):=by
 show some (D.bl (decide ((n:Int)>0)))=_;by_cases h:0<n
 ·rw[decide_eq_true h,decide_eq_true (show(n:Int)>0 by omega)]
 ·rw[decide_eq_false h,decide_eq_false (show¬ (n:Int)>0 by omega)]
theorem HQ (a b:Nat):gtD (iN a) (iN b)=some (.bl (decide (b<a))):=by
 show some (D.bl (decide ((a:Int)>(b:Int))))=_;by_cases h:b<a
 ·rw[decide_eq_true h,decide_eq_true (show(a:Int)>(b:Int)by omega)]
 ·rw[decide_eq_false h,decide_eq_false (show¬ (a:Int)>(b:Int)by omega)]
theorem lR (a b:Nat):ltD (iN a) (iN b)=some (.bl (decide (a<b))):=by
 show some (D.bl (decide ((a:Int)<(b:Int))))=_;by_cases h:a<b
 ·rw[decide_eq_true h,decide_eq_true (show(a:Int)<(b:Int)by omega)]
 ·rw[decide_eq_false h,decide_eq_false (show¬ (a:Int)<(b:Int)by omega)]
theorem HR (hgo:sGo go) (hir:ss ir):EF fa (aQ 2 5 (jH go ir fa)):=λps S r n hf pm hn=>by
 have hs:az 5 [af ps,rowD r]=[sn (af ps),sn (rowD r),none,none,none]:=rfl;have er:=hir r n pm hn;have hl:r.length=n:=by rw[pm.length_eq,length_range]
 have cnd:∀ (F:List (List Nat)) (x k:Nat),Gd S k F->uP (au (aa gtD (lnF (va 3)) (cI 0))) (trF (clF go (x2 (aa ixD (va 2) (aa cQ (lnF (va 3)) (cI 1))) (aa gtD (va 4) (aa ixD (aa ixD (va 3) (ngF (cI 1))) (ngF (cI 1))))))) [some (af ps),some (rowD r),some (.lst (S.map D.int)),some (.lst (F.map rowD)),some (iN x)]=some (okG S F x):=λF x k g=>by
  by_cases h:0<F.length
  ·have h1:=g.le;have i1:ixD (.lst (S.map D.int)) (.int ((F.length:Int)-1))=some (.int (S.getD (F.length-1) 0)):=qx (by omega) (by omega);have i2:ixD (.lst (F.map rowD)) (.int (-1))=some (rowD (la F)):=Co h;have i3:ixD (rowD (la F)) (.int (-1))=some (iN (lx F)):=Co (mk:=λ(k:Nat)=>D.int (k:Int)) (g.ne _ (sF h));simp only[sB,yk,r9,iq,HP,i1,i2,i3,HQ,hgo _ _];unfold okG;rw[decide_eq_true h];rfl
  ·have e:okG S F x=false:=by unfold okG;rw[decide_eq_false h];rfl
   simp only[sB,iq,HP,e,decide_eq_false h];rfl
 have L:=qw (step:=mq (eNm 4) (ab (ifS (uP (au (aa gtD (lnF (va 3)) (cI 0))) (trF (clF go (x2 (aa ixD (va 2) (aa cQ (lnF (va 3)) (cI 1))) (aa gtD (va 4) (aa ixD (aa ixD (va 3) (ngF (cI 1))) (ngF (cI 1)))))))) (ab (vb 3 (ngF (cI 1)) (va 4)) nxE) (ab (ifS (au (aa ltD (lnF (va 3)) (lnF (va 2)))) (ab (iM 3 (evX (lsF (dpF (x1 (va 4)))) (dpF (x1 (va 4))) (fLs (x1 (frX (va 4) noV noV))))) nxE) (rtF (evV cN))) nxE)) nxE))
  (mk:=λ(k:Nat)=>D.int (k:Int)) (grow S) (λk F Y=>Gd S k F/\∃o4,Y=[sn (af ps),sn (rowD r),dp (.lst (S.map D.int)),dp (.lst (F.map rowD)),o4]) (r:=(.deep,.non)) r 0 [] [sn (af ps),sn (rowD r),dp (.lst (S.map D.int)),dp (.lst []),none] ⟨gd0 S,none,rfl⟩ (by
   rintro j x F Y hx ⟨g,o4,rfl⟩;have hj:j<r.length:=(List.getElem?_eq_some_iff.mp hx).1;rw[Nat.zero_add]at g⊢;have hc:=cnd F x j g;refine⟨λF' e=>?_,λe=>?_⟩
   ·obtain⟨g',_,_⟩:=fV g e;unfold grow at e;by_cases c:okG S F x=true
    ·rw[if_pos c]at e;cases e;rw[c]at hc;have hp:=ke c;have hm:=g.ll _ (sF hp);refine⟨[sn (af ps),sn (rowD r),dp (.lst (S.map D.int)),dp (.lst ((F.set (F.length-1) (la F++[x])).map rowD)),sn (iN x)],?_,g',_,rfl⟩;show(ab _ _) [sn (af ps),sn (rowD r),dp (.lst (S.map D.int)),dp (.lst (F.map rowD)),sn (iN x)]=_;exact(ai ((jB hc).trans ((ai (EE (F:=F) (x:=x) rfl hp (by omega) rfl)).trans rfl))).trans rfl
    ·rw[if_neg c]at e;by_cases l:F.length<S.length
     ·rw[if_pos l]at e;cases e;rw[Bool.eq_false_iff.mpr c]at hc;have gk:=g.lk;refine⟨[sn (af ps),sn (rowD r),dp (.lst (S.map D.int)),dp (.lst ((F++[[x]]).map rowD)),sn (iN x)],?_,g',_,rfl⟩;show(ab _ _) [sn (af ps),sn (rowD r),dp (.lst (S.map D.int)),dp (.lst (F.map rowD)),sn (iN x)]=_;refine(ai ((dJ hc).trans ((ai ((jB ?_).trans ((ai (di (ds:=F.map rowD) (ds0:=F.map rowD) (c0:=.deep) (d:=rowD [x]) rfl (evX_lfs (d:=rowD [x]) (ds:=[iN x]) rfl rfl rfl rfl) rfl ?_)).trans rfl))).trans rfl))).trans ?_
      ·show au (aa ltD (lnF (va 3)) (lnF (va 2))) [some (af ps),some (rowD r),some (.lst (S.map D.int)),some (.lst (F.map rowD)),some (iN x)]=_;simp only[sB,iq,iw,lR,decide_eq_true l]
      ·rw[length_map];exact lt_of_le_of_lt (show F.length+1<=100 by omega) (by decide)
      ·rw[List.map_append];rfl
     ·rw[if_neg l]at e;cases e
   ·unfold grow at e;by_cases c:okG S F x=true
    ·rw[if_pos c]at e;cases e
    ·rw[if_neg c]at e;by_cases l:F.length<S.length
     ·rw[if_pos l]at e;cases e
     ·rw[Bool.eq_false_iff.mpr c]at hc;show(ab _ _) [sn (af ps),sn (rowD r),dp (.lst (S.map D.int)),dp (.lst (F.map rowD)),sn (iN x)]=_;refine aD ((dJ hc).trans (aD ((dJ ?_).trans rfl)));show au (aa ltD (lnF (va 3)) (lnF (va 2))) [some (af ps),some (rowD r),some (.lst (S.map D.int)),some (.lst (F.map rowD)),some (iN x)]=_;simp only[sB,iq,iw,lR,decide_eq_false l])
 refine ao rfl ?_;rw[hs];unfold jH;refine fC (evX_call (d:=.lst (S.map D.int)) (e:=.lst (S.map D.int)) ?_ rfl rfl ?_) (ug ?_ (fC (evX_lfs (d:=.lst []) (ds:=[]) (by simp) rfl (by simp) rfl) ?_))
 ·simp only[sB,hf]
 ·simp only[sB,hf];rfl
 ·simp only[sB,er];rfl
 ·have hJ:jX noV (va 1) (shv [sn (af ps),sn (rowD r),dp (.lst (S.map D.int)),dp (.lst []),none])=some (r.map λ(k:Nat)=>D.int (k:Int)):=by
   simp only[sB,db,iW,ii,fB,ig];rfl
  cases e:eN S r with
  |none=>
   refine aD ?_;show frF _ _ _ [sn (af ps),sn (rowD r),dp (.lst (S.map D.int)),dp (.lst []),none]=_;unfold frF orO u5;rw[hJ];simp only[Option.bind_some,L.2 e];rfl
  |some F=>
   obtain⟨Y',e1,_,o4,rfl⟩:=L.1 F e;refine(ai (Y':=[sn (af ps),sn (rowD r),dp (.lst (S.map D.int)),dp (.lst (F.map rowD)),o4]) ?_).trans (aD rfl);show frF _ _ _ [sn (af ps),sn (rowD r),dp (.lst (S.map D.int)),dp (.lst []),none]=_;unfold frF orO u5;rw[hJ];simp only[Option.bind_some,e1]
end K20
namespace K20
open PySem PySem.Spec PyProof.Rows L2
noncomputable def y6 (fa f:Fn):Prop:=∀ (ps:List (List Pk)) (S:List Int) (r:List Nat) (n:Nat),fa [af ps]=dp (.lst (S.map D.int))->r.Perm (List.range n)->n<=24->f [af ps,rowD r]=dp (.bl (eN S r).isSome)
theorem EG (o:Option (List (List Nat))):wL true (HN o) .non=some (.bl o.isSome):=by cases o<;>rfl
theorem EH {fa st} (hst:EF fa st):y6 fa (aQ 2 2 (nF st)):=λps S r n hf pm hn=>by
 have e:=hst ps S r n hf pm hn;refine ao rfl ?_;unfold nF;refine c6 (evX_lf (d:=.bl (eN S r).isSome) ?_ rfl);show aa (wL true) (clF st (x2 (va 0) (va 1))) cN [some (af ps),some (rowD r)]=_;simp only[sB,Jy,e,EG]
end K20
namespace K20
open PySem PySem.Spec PyProof.Rows L2
noncomputable def fF (bF:Fn):Ev->Option Out:=(rtF (evX (slF (clF bF (x1 (va 0))) noP (cZ (biF gw (x2 (va 1) (cI 1))))) (nY (clF bF (x1 (va 0))) noP (cZ (biF gw (x2 (va 1) (cI 1))))) noV))
noncomputable def gh (dj:Fn):Ev->Option Out:=(rtF (evV (ifF (trF (clF dj (x2 (aa ixD (va 0) (va 1)) (aa geD (va 3) (va 2))))) (va 1) (aa aC (va 1) (cI 1)))))
noncomputable def iY (aO:Fn):Ev->Option Out:=(ab (aj 4 evE) (ab (frF (jR (x1 (lnF (aa ixD (va 1) (cI 0))))) (eNm 5) (ab (aj 6 (evC aO (x4 (va 0) (va 2) (va 3) (va 5)))) (ab (iM 4 (evV (ifF (au (aa ltD (va 6) (lnF (va 0)))) (aa ixD (aa ixD (va 1) (va 6)) (va 5)) (cI 0)))) nxE))) (ab (rtN 4) nxE)))
noncomputable def jI (aY:Fn):Ev->Option Out:=(rtF (evX (lsF (aq [3] (jR (x1 (aa aC (lnF (aa ixD (va 1) (cI 0))) (cI 1)))) (gNm 3) tQ (biF nV (x1 (clF aY (x4 (va 0) (va 1) (va 2) (va 3))))))) (aq [3] (jR (x1 (aa aC (lnF (aa ixD (va 1) (cI 0))) (cI 1)))) (gNm 3) tQ (biF nV (x1 (clF aY (x4 (va 0) (va 1) (va 2) (va 3)))))) (fCo [3] (jR (x1 (aa aC (lnF (aa ixD (va 1) (cI 0))) (cI 1)))) (gNm 3) tQ (frX (biF nV (x1 (clF aY (x4 (va 0) (va 1) (va 2) (va 3))))) noV (fNo (x1 (clF aY (x4 (va 0) (va 1) (va 2) (va 3)))))))))
noncomputable def fG (bw:Fn):Ev->Option Out:=(ab (aj 2 (evX (lsF (dpF (x1 (lsF (aq [4] (jX noV (va 0)) (gNm 4) tQ (lsF (dpF (x1 (cI 1))))))))) (dpF (x1 (lsF (aq [4] (jX noV (va 0)) (gNm 4) tQ (lsF (dpF (x1 (cI 1)))))))) (fLs (x1 (frX (lsF (aq [4] (jX noV (va 0)) (gNm 4) tQ (lsF (dpF (x1 (cI 1)))))) (aq [4] (jX noV (va 0)) (gNm 4) tQ (lsF (dpF (x1 (cI 1))))) (fCo [4] (jX noV (va 0)) (gNm 4) tQ (frX (lsF (dpF (x1 (cI 1)))) (dpF (x1 (cI 1))) (fLs (x1 (frX (cI 1) noV noV)))))))))) (ab (frF (jR (x1 (va 1))) (eNm 3) (ab (iM 2 (evX (lsF (aq [5] (jR (x1 (lnF (va 0)))) (gNm 5) tQ (clF bw (x3 (va 0) (aa ixD (va 2) (va 3)) (va 5))))) (aq [5] (jR (x1 (lnF (va 0)))) (gNm 5) tQ (clF bw (x3 (va 0) (aa ixD (va 2) (va 3)) (va 5)))) (fCo [5] (jR (x1 (lnF (va 0)))) (gNm 5) tQ (frX (clF bw (x3 (va 0) (aa ixD (va 2) (va 3)) (va 5))) noV (fCl bw (x3 (va 0) (aa ixD (va 2) (va 3)) (va 5))))))) nxE)) (ab (rtN 2) nxE)))
noncomputable def gi:Ev->Option Out:=(rtF (evV (ifF (au (aa (aN false) (aa ixD (va 0) (cI 0)) (cI 1))) (cI 0) (va 1))))
noncomputable def gj (aP:Fn):Ev->Option Out:=(rtF (evV (ifF (au (aa geD (va 2) (cI 0))) (aa ixD (aa ixD (aa ixD (va 1) (va 2)) (cI 0)) (clF aP (x2 (va 0) (va 2)))) (cI 0))))
noncomputable def jJ (bd bo aI:Fn):Ev->Option Out:=(ab (aj 2 (evC aI (x2 (va 0) (va 1)))) (rtF (evC bo (x3 (va 2) (clF bd (x2 (va 2) (va 1))) (va 1)))))
abbrev itD (S:List Int):D:=.lst (S.map D.int)
def vec (k:Nat) (g:Nat->Nat):List D:=(List.range k).map λi=>D.int ((g i:Nat):Int)
def mat (n k:Nat) (g:Nat->Nat->Nat):List D:=(List.range n).map λa=>D.lst (vec k (g a))
theorem EI (k:Nat) (g:Nat->Nat):lfL (vec k g)=true:=bB λd hd=>by
 obtain⟨p,_,rfl⟩:=List.mem_map.mp hd;rfl
theorem oH {k i:Nat} (h:i<k) (hz:z=(i:Int)):ixD (.lst (vec k g)) (.int z)=some (iN (g i)):=by
 subst hz;exact bL (mk:=λi=>D.int ((g i:Nat):Int)) (by rw[List.getElem?_range h])
theorem oI {n k a:Nat} (h:a<n) (hz:z=(a:Int)):ixD (.lst (mat n k g)) (.int z)=some (.lst (vec k (g a))):=by
 subst hz;exact bL (mk:=λa=>D.lst (vec k (g a))) (by rw[List.getElem?_range h])
theorem Cp {i:Nat} (h:i<S.length) (hz:z=(i:Int)):ixD (itD S) (.int z)=some (.int (S.getD i 0)):=by
 subst hz;refine bL ?_;rw[List.getD_eq_getElem?_getD,getElem?_eq_getElem h];rfl
theorem sG (S:List Int):cq [itD S]=some (.int (S.length:Int)):=by rw[b8,iV,Option.bind_some,length_map]
theorem uo (k:Nat) (g:Nat->Nat):cq [.lst (vec k g)]=some (iN k):=by unfold vec;rw[b8,iV,Option.bind_some,length_map,length_range]
theorem y7 (l:List Nat):pL (l.map λ(n:Nat)=>(n:Int))=((l.sum:Nat):Int):=by
 have:∀ (l:List Nat) (a:Int),(l.map λ(n:Nat)=>(n:Int)).foldl (·+·) a=a+((l.sum:Nat):Int):=λl=>by
  induction l with
  |nil=>intro a;simp
  |cons n l ih=>
   intro a;rw[List.map_cons,List.foldl_cons,ih,List.sum_cons];omega
 have:=this l 0;unfold pL;rw[this];omega
theorem qy:∀l:List Nat,uW (l.map λ(n:Nat)=>D.int (n:Int))=some (l.map λ(n:Nat)=>(n:Int))
 |[]=>rfl
 |n::l=>by
  show(uW (l.map λ(n:Nat)=>D.int (n:Int))).bind _=_;rw[qy l];rfl
theorem y8 (l:List Nat):nV [.lst (l.map λ(n:Nat)=>D.int (n:Int))]=some (iN l.sum):=by
 show(uW (l.map λ(n:Nat)=>D.int (n:Int))).bind _=_;rw[qy,Option.bind_some,y7]
theorem uq (k:Nat) (g:Nat->Nat):nV [.lst (vec k g)]=some (iN (((List.range k).map g).sum)):=by
 have e:vec k g=((List.range k).map g).map λ(n:Nat)=>D.int (n:Int):=by unfold vec;rw[List.map_map];rfl
 rw[e,y8]
theorem evX_fr {R L Sp} (h:frX R L Sp (vw Y)=some e):evX R L Sp Y=some ((.deep,e),Y):=by
 unfold evX orO n5;rw[h];rfl
theorem lS {R L Sp} (h1:R Y=some (.lst xs)) (h2:L Y=some xs) (h3:Sp Y=some (.lst xs)):frX R L Sp Y=some (.lst xs):=by
 unfold frX orO lfO mo;dsimp only;rw[h1,h2,h3];simp only[Option.bind_some,Bk];cases lfL xs<;>rfl
theorem EJ {R Sp} (h1:R Y=some (.lst xs)) (h3:Sp Y=some (.lst xs)):frX R noV Sp Y=some (.lst xs):=by
 unfold frX orO lfO mo;dsimp only;rw[h1,h3];rfl
theorem ur (a b:Nat):geD (iN a) (iN b)=some (.bl (decide (b<=a))):=by
 show some (D.bl (decide ((b:Int)<=(a:Int))))=_;by_cases h:b<=a
 ·rw[decide_eq_true h,decide_eq_true (show(b:Int)<=(a:Int)by omega)]
 ·rw[decide_eq_false h,decide_eq_false (show¬ (b:Int)<=(a:Int)by omega)]
noncomputable def sSf (f:Fn):Prop:=∀ (S:List Int) (s b p:Nat),s<S.length->f [itD S,iN s,iN b,iN p]=dp (iN (nxt S s (decide (b<=p))))
theorem Kb (hgo:sGo go):sSf (aQ 4 4 (gh go)):=λS s b p hs=>by
 refine ao rfl ?_;unfold gh;refine c6 (evX_lf (d:=iN (nxt S s (decide (b<=p)))) ?_ rfl);show ifF _ (va 1) (aa aC (va 1) (cI 1)) [some (itD S),some (iN s),some (iN b),some (iN p)]=_;have i1:=Cp (S:=S) (i:=s) (z:=(s:Int)) hs rfl;simp only[sB,lE,i1,ur,hgo _ _];unfold nxt;cases decide (b<=p)==decide (S.getD s 0=1)<;>rfl
abbrev tab (S:List Int) (l:Nat):D:=.lst (mat S.length (l+1) (W S l))
noncomputable def gg (S:List Int) (l s b p:Nat):Nat:=if nxt S s (decide (b<=p))<S.length then W S l (nxt S s (decide (b<=p))) p else 0
noncomputable def sCh (f:Fn):Prop:=∀ (S:List Int) (l s b:Nat),0<S.length->s<S.length->l<100->f [itD S,tab S l,iN s,iN b]=dp (.lst (vec (l+1) (gg S l s b)))
theorem Kc (hsf:sSf sf):sCh (aQ 4 7 (iY sf)):=λS l s b h0 hs hl=>by
 have hst:az 7 [itD S,tab S l,iN s,iN b]=[sn (itD S),sn (tab S l),sn (iN s),sn (iN b),none,none,none]:=rfl;have i0:ixD (tab S l) (.int 0)=some (.lst (vec (l+1) (W S l 0))):=oI h0 rfl;have fin:∃a:Unit,iY sf [sn (itD S),sn (tab S l),sn (iN s),sn (iN b),none,none,none]=some (.rt (.deep,.lst (vec (l+1) (gg S l s b))))/\True:=by
  unfold iY;refine av (evX_lfs (d:=.lst []) (ds:=[]) (by simp) rfl (by simp) rfl) (qo (n:=l+1) (v:=λi=>(i:Int)) (λi Y=>∃o5 o6,Y=[sn (itD S),sn (tab S l),sn (iN s),sn (iN b),dp (.lst (vec i (gg S l s b))),o5,o6]) ?_ ⟨none,none,rfl⟩ ?_ ?_)
  ·refine fA ?_;show(x1 (lnF (aa ixD (va 1) (cI 0))) [some (itD S),some (tab S l),some (iN s),some (iN b),none,none,none]).bind kP=_;simp only[sB,i0,uo];exact bv (by omega)
  ·rintro p Y hp ⟨o5,o6,rfl⟩;have e1:=hsf S s b p hs;refine av (evX_lf (d:=iN (nxt S s (decide (b<=p)))) ?_ rfl) (qp (di (ds:=vec p (gg S l s b)) (ds0:=vec p (gg S l s b)) (c0:=.deep) (d:=iN (gg S l s b p)) rfl (evX_lf ?_ rfl) rfl ?_) ⟨sn (iN p),dp (iN (nxt S s (decide (b<=p)))),?_⟩)
   ·simp only[sB,e1]
   ·simp only[sB];show ifF _ _ (cI 0) [some (itD S),some (tab S l),some (iN s),some (iN b),some (.lst (vec p (gg S l s b))),some (iN p),some (iN (nxt S s (decide (b<=p))))]=_;unfold gg;by_cases c:nxt S s (decide (b<=p))<S.length
    ·have j1:ixD (tab S l) (iN (nxt S s (decide (b<=p))))=some (.lst (vec (l+1) (W S l (nxt S s (decide (b<=p)))))):=oI c rfl;have j2:ixD (.lst (vec (l+1) (W S l (nxt S s (decide (b<=p)))))) (iN p)=some (iN (W S l (nxt S s (decide (b<=p))) p)):=oH hp rfl;rw[if_pos c];simp only[sB,lE,sG,lR,decide_eq_true c,j1,j2]
    ·rw[if_neg c];simp only[sB,lE,sG,lR,decide_eq_false c];rfl
   ·unfold vec;rw[length_map,length_range];exact lt_of_le_of_lt (show p+1<=200 by omega) (by decide)
   ·unfold vec;rw[List.range_succ,List.map_append];rfl
  ·rintro Y ⟨o5,o6,rfl⟩;exact⟨(),aD rfl,trivial⟩
 obtain⟨_,fin,_⟩:=fin;exact ao rfl (by rw[hst];exact fin)
theorem Kd (S:List Int) (l s b:Nat):W S (l+1) s b=((List.range (l+1)).map (gg S l s b)).sum:=rfl
noncomputable def sWf (f:Fn):Prop:=∀ (S:List Int) (l s:Nat),0<S.length->s<S.length->l<100->f [itD S,tab S l,iN s]=dp (.lst (vec (l+2) (W S (l+1) s)))
theorem Ke (hch:sCh ch):sWf (aQ 3 4 (jI ch)):=λS l s h0 hs hl=>by
 have hst:az 4 [itD S,tab S l,iN s]=[sn (itD S),sn (tab S l),sn (iN s),none]:=rfl;have i0:ixD (tab S l) (.int 0)=some (.lst (vec (l+1) (W S l 0))):=oI h0 rfl;have hc:aq [3] (jR (x1 (aa aC (lnF (aa ixD (va 1) (cI 0))) (cI 1)))) (gNm 3) tQ (biF nV (x1 (clF ch (x4 (va 0) (va 1) (va 2) (va 3))))) [some (itD S),some (tab S l),some (iN s),none]=some (vec (l+2) (W S (l+1) s)):=by
  refine aM (xs:=List.range (l+2)) (mk:=λ(i:Nat)=>D.int (i:Int)) (out:=λb=>D.int ((W S (l+1) s b:Nat):Int)) (fA ?_) (λb hb=>?_) (by rw[length_range];exact lt_of_le_of_lt (show l+2<=200 by omega) (by decide))
  ·simp only[sB,i0,uo];exact bv (n:=l+2) (by omega)
  ·simp only[sB,hch S l s b h0 hs hl,uq,Kd]
 refine ao rfl ?_;rw[hst];unfold jI;refine c6 (evX_lfs (d:=.lst (vec (l+2) (W S (l+1) s))) (ds:=vec (l+2) (W S (l+1) s)) ?_ rfl ?_ (EI _ _))
 ·show lsF _ [some (itD S),some (tab S l),some (iN s),none]=_;rw[lsF_a,hc];rfl
 ·exact hc
def tbs (S:List Int) (m:Nat):D:=.lst ((List.range m).map λl=>tab S l)
noncomputable def sWl (f:Fn):Prop:=∀ (S:List Int) (m:Nat),0<S.length->S.length<256->m<90->f [itD S,iN m]=dp (tbs S (m+1))
theorem Kf (hwf:sWf wf):sWl (aQ 2 6 (fG wf)):=λS m h0 hS hm=>by
 have hst:az 6 [itD S,iN m]=[sn (itD S),sn (iN m),none,none,none,none]:=rfl;have hN:S.length<big:=Nat.lt_trans hS (by decide);have eS:S.map D.int=(List.range S.length).map λi=>D.int (S.getD i 0):=by
  conv=>lhs;rw[<-bY 0 S]
  rw[List.map_map];rfl
 have hc0:∀F:Vv->Option D,(∀Y:Vv,F Y=some (.lst [.int 1]))->aq [4] (jX noV (va 0)) (gNm 4) tQ F [some (itD S),some (iN m),none,none,none,none]=some (mat S.length 1 (W S 0)):=λF hF=>by
  refine aM (xs:=List.range S.length) (mk:=λi=>D.int (S.getD i 0)) (out:=λa=>D.lst (vec 1 (W S 0 a))) ?_ (λi _=>?_) (by rw[length_range];exact hN)
  ·rw[<-eS];simp only[sB,db,iV]
  ·simp only[sB,hF];rfl
 have fin:∃a:Unit,fG wf [sn (itD S),sn (iN m),none,none,none,none]=some (.rt (.deep,tbs S (m+1)))/\True:=by
  unfold fG;refine av (evX_fr (e:=tbs S 1) (lS (xs:=[tab S 0]) ?_ ?_ ?_)) (qo (n:=m) (v:=λi=>(i:Int)) (λi Y=>∃o3,Y=[sn (itD S),sn (iN m),dp (tbs S (i+1)),o3,none,none]) ?_ ⟨none,rfl⟩ ?_ ?_)
  ·show lsF _ [some (itD S),some (iN m),none,none,none,none]=_;rw[lsF_a,dpF_a,vB,consX_a,lsF_a,hc0 (lsF (dpF (x1 (cI 1)))) λ_=>rfl];rfl
  ·show dpF _ [some (itD S),some (iN m),none,none,none,none]=_;rw[dpF_a,vB,consX_a,lsF_a,hc0 (lsF (dpF (x1 (cI 1)))) λ_=>rfl];rfl
  ·show fLs _ [some (itD S),some (iN m),none,none,none,none]=_;have e:frX (lsF (aq [4] (jX noV (va 0)) (gNm 4) tQ (lsF (dpF (x1 (cI 1)))))) (aq [4] (jX noV (va 0)) (gNm 4) tQ (lsF (dpF (x1 (cI 1))))) (fCo [4] (jX noV (va 0)) (gNm 4) tQ (frX (lsF (dpF (x1 (cI 1)))) (dpF (x1 (cI 1))) (fLs (x1 (frX (cI 1) noV noV))))) [some (itD S),some (iN m),none,none,none,none]=some (tab S 0):=by
    refine lS (xs:=mat S.length 1 (W S 0)) ?_ ?_ ?_
    ·rw[lsF_a,hc0 (lsF (dpF (x1 (cI 1)))) λ_=>rfl];rfl
    ·exact hc0 (lsF (dpF (x1 (cI 1)))) λ_=>rfl
    ·unfold fCo;rw[hc0 (frX (lsF (dpF (x1 (cI 1)))) (dpF (x1 (cI 1))) (fLs (x1 (frX (cI 1) noV noV)))) λ_=>rfl];rfl
   rw[Hl,vB,consX_a,e];rfl
  ·refine fA ?_;show(x1 (va 1) [some (itD S),some (iN m),none,none,none,none]).bind kP=_;simp only[sB];exact bv (by omega)
  ·rintro l Y hl ⟨o3,rfl⟩;have i1:ixD (tbs S (l+1)) (iN l)=some (tab S l):=bL (mk:=λl=>tab S l) (by rw[List.getElem?_range (by omega)]);have hcl:∀F:Vv->Option D,(∀s,s<S.length->F [some (itD S),some (iN m),some (tbs S (l+1)),some (iN l),none,some (iN s)]=some (.lst (vec (l+2) (W S (l+1) s))))->aq [5] (jR (x1 (lnF (va 0)))) (gNm 5) tQ F [some (itD S),some (iN m),some (tbs S (l+1)),some (iN l),none,none]=some (mat S.length (l+2) (W S (l+1))):=λF hF=>by
    refine aM (xs:=List.range S.length) (mk:=λ(i:Nat)=>D.int (i:Int)) (out:=λa=>D.lst (vec (l+2) (W S (l+1) a))) (fA ?_) (λs hs=>?_) (by rw[length_range];exact hN)
    ·simp only[sB,sG];exact bv (by omega)
    ·simp only[sB,hF s (List.mem_range.mp hs)]
   have eC:∀s,s<S.length->clF wf (x3 (va 0) (aa ixD (va 2) (va 3)) (va 5)) [some (itD S),some (iN m),some (tbs S (l+1)),some (iN l),none,some (iN s)]=some (.lst (vec (l+2) (W S (l+1) s))):=λs hs=>by
    simp only[sB,i1,hwf S l s h0 hs (by omega)]
   have eF:∀s,s<S.length->frX (clF wf (x3 (va 0) (aa ixD (va 2) (va 3)) (va 5))) noV (fCl wf (x3 (va 0) (aa ixD (va 2) (va 3)) (va 5))) [some (itD S),some (iN m),some (tbs S (l+1)),some (iN l),none,some (iN s)]=some (.lst (vec (l+2) (W S (l+1) s))):=λs hs=>by
    refine EJ (eC s hs) ?_;simp only[sB,i1,hwf S l s h0 hs (by omega)];rfl
   refine qp (di (ds:=(List.range (l+1)).map λl=>tab S l) (ds0:=(List.range (l+1)).map λl=>tab S l) (c0:=.deep) (d:=tab S (l+1)) rfl (evX_fr (lS (xs:=mat S.length (l+2) (W S (l+1))) ?_ ?_ ?_)) rfl ?_) ⟨sn (iN l),?_⟩
   ·show lsF _ [some (itD S),some (iN m),some (tbs S (l+1)),some (iN l),none,none]=_;rw[lsF_a,hcl _ eC];rfl
   ·exact hcl _ eC
   ·show fCo _ _ _ _ _ [some (itD S),some (iN m),some (tbs S (l+1)),some (iN l),none,none]=_;unfold fCo;rw[hcl _ eF];rfl
   ·rw[length_map,length_range];exact lt_of_le_of_lt (show l+1+1<=200 by omega) (by decide)
   ·unfold tbs;rw[List.range_succ (n:=l+1),List.map_append];rfl
  ·rintro Y ⟨o3,rfl⟩;exact⟨(),aD rfl,trivial⟩
 obtain⟨_,fin,_⟩:=fin;exact ao rfl (by rw[hst];exact fin)
noncomputable def sFb (f:Fn):Prop:=∀ (S:List Int) (m:Nat),0<S.length->f [itD S,iN m]=dp (.int (((if S.getD 0 0=1 then 0 else m:Nat)):Int))
theorem Kg:sFb (aQ 2 2 gi):=λS m h0=>by
 refine ao rfl ?_;unfold gi;refine c6 (evX_lf (d:=.int (((if S.getD 0 0=1 then 0 else m:Nat)):Int)) ?_ rfl);show ifF _ (cI 0) (va 1) [some (itD S),some (iN m)]=_;have i1:=Cp (S:=S) (i:=0) (z:=0) h0 rfl;simp only[sB,lE,i1,jC];by_cases c:S.getD 0 0=1
 ·rw[if_pos c,decide_eq_true c];rfl
 ·rw[if_neg c,decide_eq_false c];rfl
noncomputable def sIa (f:Fn):Prop:=∀ (S:List Int) (m:Nat),0<S.length->f [itD S,tbs S (m+1),iN m]=dp (iN (W S m 0 (if S.getD 0 0=1 then 0 else m)))
theorem Kh (hfb:sFb fb):sIa (aQ 3 3 (gj fb)):=λS m h0=>by
 refine ao rfl ?_;unfold gj;refine c6 (evX_lf (d:=iN (W S m 0 (if S.getD 0 0=1 then 0 else m))) ?_ rfl);show ifF _ _ (cI 0) [some (itD S),some (tbs S (m+1)),some (iN m)]=_;have i1:ixD (tbs S (m+1)) (iN m)=some (tab S m):=bL (mk:=λl=>tab S l) (by rw[List.getElem?_range (by omega)]);have i2:ixD (tab S m) (.int 0)=some (.lst (vec (m+1) (W S m 0))):=oI h0 rfl;have i3:ixD (.lst (vec (m+1) (W S m 0))) (.int (((if S.getD 0 0=1 then 0 else m:Nat)):Int))=some (iN (W S m 0 (if S.getD 0 0=1 then 0 else m))):=oH (by split<;>omega) rfl;have g0:geD (iN m) (.int 0)=some (.bl true):=by
  have:=ur m 0;rw[decide_eq_true (Nat.zero_le m)]at this;exact this
 simp only[sB,lE,g0,i1,i2,hfb S m h0,i3]
theorem sH (h0:A Y=some (.lst xs)) (h1:B Y=some (iN k)):slF A noP (cZ B) Y=some (.lst (xs.take k)):=by
 have e:=lM xs id k;rw[List.map_id,List.map_id]at e;unfold slF orO uY nY;simp[h0,h1,e]
theorem EK (h0:A Y=some (.lst xs)) (h1:B Y=some (iN k)):nY A noP (cZ B) Y=some (xs.take k):=by
 have e:=lM xs id k;rw[List.map_id,List.map_id]at e;unfold nY;simp[h0,h1,e]
def useS (S:List Int) (m:Nat):List Int:=S.take (max m 1)
noncomputable def sUs (fa f:Fn):Prop:=∀ (ps:List (List Pk)) (S:List Int) (m:Nat),fa [af ps]=dp (itD S)->f [af ps,iN m]=dp (itD (useS S m))
theorem Ki:sUs fa (aQ 2 2 (fF fa)):=λps S m hf=>by
 refine ao rfl ?_;unfold fF;have em:gw [iN m,.int 1]=some (iN (max m 1)):=by
  rw[ou];by_cases h:(1:Int)>(m:Int)
  ·rw[if_pos h];exact congrArg some (congrArg D.int (by omega))
  ·rw[if_neg h];exact congrArg some (congrArg D.int (by omega))
 have a0:clF fa (x1 (va 0)) [some (af ps),some (iN m)]=some (itD S):=by
  simp only[sB,hf]
 have a1:biF gw (x2 (va 1) (cI 1)) [some (af ps),some (iN m)]=some (iN (max m 1)):=by
  simp only[sB,em]
 have e1:nY (clF fa (x1 (va 0))) noP (cZ (biF gw (x2 (va 1) (cI 1)))) [some (af ps),some (iN m)]=some ((useS S m).map D.int):=by
  rw[EK a0 a1,<-List.map_take];rfl
 have e2:slF (clF fa (x1 (va 0))) noP (cZ (biF gw (x2 (va 1) (cI 1)))) [some (af ps),some (iN m)]=some (itD (useS S m)):=by
  rw[sH a0 a1,<-List.map_take];rfl
 exact c6 (evX_lfs (d:=itD (useS S m)) (ds:=(useS S m).map D.int) e2 rfl e1 (oG _))
theorem kf (h:0<S.length):0<(useS S m).length/\(useS S m).length<=S.length:=by
 unfold useS;rw[List.length_take];omega
def bq (S:List Int) (m:Nat):Nat:=W (useS S m) m 0 (if(useS S m).getD 0 0=1 then 0 else m)
noncomputable def sMr (fa f:Fn):Prop:=∀ (ps:List (List Pk)) (S:List Int) (m:Nat),fa [af ps]=dp (itD S)->0<S.length->S.length<256->m<90->f [af ps,iN m]=dp (iN (bq S m))
theorem Kj (hwl:sWl wl) (hia:sIa ia) (hus:sUs fa us):sMr fa (aQ 2 3 (jJ wl ia us)):=λps S m hf h0 hS hm=>by
 have hst:az 3 [af ps,iN m]=[sn (af ps),sn (iN m),none]:=rfl;have e1:=hus ps S m hf;obtain⟨u1,u2⟩:=kf (m:=m) h0;have e2:=hwl (useS S m) m u1 (by omega) hm;have e3:=hia (useS S m) m u1;refine ao rfl ?_;rw[hst];unfold jJ;refine fC (evX_call (d:=itD (useS S m)) (e:=itD (useS S m)) ?_ rfl rfl ?_) (c6 (evX_lf (d:=iN (bq S m)) ?_ rfl))
 ·simp only[sB,e1]
 ·simp only[sB,e1];rfl
 ·simp only[sB,e2,e3];rfl
end K20
namespace K20
open PySem PySem.Spec PyProof.Rows L2
noncomputable def dD:Ev->Option Out:=(ab (aj 2 (evX (aa aC (lnF (va 0)) (va 1)) (pQ (lnF (va 0)) (va 1)) noV)) (ab (frF (jX noV (va 0)) (eNm 3) (ab (aj 2 (evV (aa bj (aa aC (aa aC (aa aL (va 2) (va 2)) (aa aL (va 3) (cI 131))) (cI 17)) (cI 1000000000039)))) nxE)) (ab (ifS (au (aa ltD (va 1) (lnF (va 0)))) (rtF (evV (aa aC (va 2) (aa ixD (va 0) (va 1))))) nxE) (ab (rtN 2) nxE))))
noncomputable def fH:Ev->Option Out:=(ab (aj 2 (evV (aa bj (aa aL (aa bj (aa aC (aa aC (va 0) (aa aL (cI 977) (va 1))) (cI 1)) (cI 1000000007)) (cI 48271)) (cI 998244353)))) (ab (aj 2 (evV (aa bj (aa aL (va 2) (va 2)) (cI 998244353)))) (rtF (evV (aa jL (aa bj (aa aL (aa aC (va 2) (aa aL (cI 40692) (aa aC (va 1) (cI 3)))) (cI 69621)) (cI 2147483647)) (cI 8))))))
noncomputable def fI (ax:Fn):Ev->Option Out:=(ab (aj 3 (evV (aa aC (cI 1) (aa bj (clF ax (x2 (va 0) (aa aL (cI 7) (va 1)))) (cI 3))))) (ab (ifS (au (aa (aN false) (aa bj (clF ax (x2 (va 0) (aa aC (aa aL (cI 7) (va 1)) (cI 1)))) (cI 9)) (cI 4))) (ab (aj 3 (evV (aa aC (cI 4) (aa bj (clF ax (x2 (va 0) (aa aL (cI 7) (va 1)))) (cI 3))))) nxE) nxE) (ab (aj 4 evE) (ab (frF (jR (x1 (biF re (x2 (va 3) (va 2))))) (eNm 5) (ab (aj 6 (evV (aa ixD (lsF (dpF (x2 (cS "queue") (cS "pile")))) (aa bj (clF ax (x2 (va 0) (aa aC (aa aC (cI 50) (aa aL (cI 7) (va 1))) (va 5)))) (cI 2))))) (ab (aj 7 (evV (aa ixD (lsF (dpF (ae (cI 9) (ae (cI 9) (x6 (cI 9) (cI 9) (cI 9) (cI 2) (cI 3) (cI 1)))))) (aa bj (clF ax (x2 (va 0) (aa aC (aa aC (cI 150) (aa aL (cI 7) (va 1))) (va 5)))) (cI 8))))) (ab (iM 4 (evX (tpF (x2 (va 6) (va 7))) noV (fTp (x2 (frX (va 6) noV noV) (frX (va 7) noV noV))))) nxE)))) (rtF (evX (biF bQ (x1 (va 4))) noV (fNo (x1 (va 4)))))))))
noncomputable def gm (aw cg:Fn):Ev->Option Out:=(ab (aj 1 evE) (ab (aj 2 (evV (cI 1))) (ab (frF (jR (x1 (aa ixD (lsF (dpF (ae (cI 1) (ae (cI 2) (x6 (cI 3) (cI 6) (cI 0) (cI 3) (cI 4) (cI 2)))))) (aa bj (clF aw (x2 (va 0) (cI 0))) (cI 8))))) (eNm 3) (ab (iM 1 (evC cg (x3 (clF aw (x2 (va 0) (aa aC (cI 70) (va 3)))) (va 3) (biF gw (x2 (cI 1) (aa jL (cI 200) (va 2))))))) (ab (aj 2 (evV (aa aL (va 2) (lnF (aa ixD (va 1) (va 3)))))) nxE))) (rtF (evX (biF bQ (x1 (va 1))) noV (fNo (x1 (va 1))))))))
noncomputable def nI (f:Fn):Prop:=∀ (ns:List Int) (k:Nat),ns.length<=63->k<1000->∃v:Int,f [scD ns,iN k]=dp (.int v)
theorem EL:nI (aQ 2 4 dD):=λns k hn hk=>by
 have hs:az 4 [scD ns,iN k]=[sn (scD ns),sn (iN k),none,none]:=rfl;have L1:=fT (J:=jX noV (va 0)) (tg:=eNm 3) (F:=ab (aj 2 (evV (aa bj (aa aC (aa aC (aa aL (va 2) (va 2)) (aa aL (va 3) (cI 131))) (cI 17)) (cI 1000000000039)))) nxE) (ds:=ns.map D.int)
  (Y:=[sn (scD ns),sn (iN k),dp (.int ((ns.length:Int)+k)),none])
  (λi Y=>∃v o,0<=v/\v<1000000000039/\Y=[sn (scD ns),sn (iN k),dp (.int v),o]) (by simp) ⟨_,none,by omega,by omega,rfl⟩ (by
   rintro i d Y hd ⟨v,o,h1,h2,rfl⟩;rw[getElem?_map]at hd;cases hq:ns[i]? with
   |none=>rw[hq]at hd;cases hd
   |some p=>
    rw[hq]at hd;cases hd;refine⟨_,ai (aW (evX_lf (d:=.int ((v*v+p*131+17)%1000000000039)) ?_ rfl)),⟨_,_,Int.emod_nonneg _ (by decide),Int.emod_lt_of_pos _ (by decide),rfl⟩⟩;simp[yG h1 h2,de (show(-1000000:Int)<131 by decide) (show(131:Int)<1000000 by decide)];exact dL (by decide))
 obtain⟨Y1,e1,v,o,_,_,rfl⟩:=L1;have st0:aj 2 (evV (aa aC (lnF (va 0)) (va 1))) [sn (scD ns),sn (iN k),none,none]=some (.nx [sn (scD ns),sn (iN k),dp (.int ((ns.length:Int)+k)),none]):=aW (evX_lf (by simp) rfl);by_cases h:k<ns.length
 ·obtain⟨y,ey⟩:=HA (ns:=ns) (i:=(k:Int)) (by omega) (by omega);refine⟨v+y,ao rfl ?_⟩;rw[hs];unfold dD;refine(ai st0).trans ((ai e1).trans (aD ((jB ?_).trans (aD (bt (evX_lf ?_ rfl))))))
  ·have:(k:Int)<(ns.length:Int):=by omega
   simp[vw_o,this]
  ·simp[vw_o,ey]
 ·refine⟨v,ao rfl ?_⟩;rw[hs];unfold dD;refine(ai st0).trans ((ai e1).trans ((ai ((dJ ?_).trans rfl)).trans (aD rfl)));have:¬ (k:Int)<(ns.length:Int):=by omega
  simp[vw_o,this]
def qz (f:Fn):Prop:=∀ (c k:Int),0<=k->k<10000->∃v:Int,f [.int c,.int k]=dp (.int v)
theorem EM:qz (aQ 2 3 fH):=λc k h0 h1=>by
 have hs:az 3 [.int c,.int k]=[sn (.int c),sn (.int k),none]:=rfl;have m1:=md ((c+977*k+1)%1000000007*48271) (show(0:Int)<998244353 by decide);obtain⟨x,hx⟩:∃x,(c+977*k+1)%1000000007*48271%998244353=x:=⟨_,rfl⟩;rw[hx]at m1;refine⟨(x*x%998244353+40692*(k+3))*69621%2147483647/8,ao rfl ?_⟩;rw[hs];unfold fH;refine(ai (aW (evX_lf (d:=.int x) ?_ rfl))).trans ?_
 ·simp only[sB,de (show -1000000<k by omega) (show k<1000000 by omega),mw _ 1000000007 (by decide),de (show(-1000000:Int)<48271 by decide) (show(48271:Int)<1000000 by decide),mw _ 998244353 (by decide),hx]
 refine(ai (aW (evX_lf (d:=.int (x*x%998244353)) ?_ rfl))).trans (aD (bt (evX_lf (d:=.int ((x*x%998244353+40692*(k+3))*69621%2147483647/8)) ?_ rfl)))
 ·simp only[sB,yG m1.1 (show x<1000000000039 by omega),mw _ 998244353 (by decide)]
 ·simp only[sB,de (show -1000000<k+3 by omega) (show k+3<1000000 by omega),de (show(-1000000:Int)<69621 by decide) (show(69621:Int)<1000000 by decide),mw _ 2147483647 (by decide),j9 (show(0:Int)<8 by decide) (show(8:Int)<1073741824 by decide)]
noncomputable def lT (f:Fn):Prop:=∀ (c:Int) (a m:Nat),a<10->1<=m->∃p:List Pk,okP p=true/\(∀k∈p,(1:Int)<=k.2)/\p.length<=m/\f [.int c,iN a,iN m]=dp (tpD p)
theorem vG {st} (hst:qz st):lT (aQ 3 8 (fI st)):=λc a m ha hm=>by
 have hs:az 8 [.int c,iN a,iN m]=[sn (.int c),sn (iN a),sn (iN m),none,none,none,none,none]:=rfl;have m7:aL (.int 7) (iN a)=some (.int (7*a)):=de (by omega) (by omega);obtain⟨y1,e1⟩:=hst c (7*a) (by omega) (by omega);obtain⟨y2,e2⟩:=hst c (7*a+1) (by omega) (by omega);have h3:=md y1 (show(0:Int)<3 by decide);have key:∃n:Nat,1<=n/\n<=6/\ab (aj 3 (evV (aa aC (cI 1) (aa bj (clF st (x2 (va 0) (aa aL (cI 7) (va 1)))) (cI 3))))) (ifS (au (aa (aN false) (aa bj (clF st (x2 (va 0) (aa aC (aa aL (cI 7) (va 1)) (cI 1)))) (cI 9)) (cI 4))) (ab (aj 3 (evV (aa aC (cI 4) (aa bj (clF st (x2 (va 0) (aa aL (cI 7) (va 1)))) (cI 3))))) nxE) nxE) [sn (.int c),sn (iN a),sn (iN m),none,none,none,none,none]=some (.nx [sn (.int c),sn (iN a),sn (iN m),dp (iN n),none,none,none,none]):=by
  have s3:aj 3 (evV (aa aC (cI 1) (aa bj (clF st (x2 (va 0) (aa aL (cI 7) (va 1)))) (cI 3)))) [sn (.int c),sn (iN a),sn (iN m),none,none,none,none,none]=some (.nx [sn (.int c),sn (iN a),sn (iN m),dp (.int (1+y1%3)),none,none,none,none]):=aW (evX_lf (by
   simp only[sB,m7,e1,mw _ 3 (by decide)]) rfl)
  have hT:au (aa (aN false) (aa bj (clF st (x2 (va 0) (aa aC (aa aL (cI 7) (va 1)) (cI 1)))) (cI 9)) (cI 4)) (vw [sn (.int c),sn (iN a),sn (iN m),dp (.int (1+y1%3)),none,none,none,none])=some (decide (y2%9=4)):=by
   simp only[sB,m7,e2,mw _ 9 (by decide),jC,Bool.false_eq_true,if_false]
  cases hb:decide (y2%9=4)with
  |true=>
   rw[hb]at hT;refine⟨(4+y1%3).toNat,by omega,by omega,(ai s3).trans ((jB hT).trans ((ai (aW (evX_lf (d:=.int (4+y1%3)) ?_ rfl))).trans ?_))⟩
   ·simp only[sB,m7,e1,mw _ 3 (by decide)]
   ·simp only[iN,Int.toNat_of_nonneg (show(0:Int)<=4+y1%3 by omega)];rfl
  |false=>
   rw[hb]at hT;refine⟨(1+y1%3).toNat,by omega,by omega,(ai s3).trans ((dJ hT).trans ?_)⟩;simp only[iN,Int.toNat_of_nonneg (show(0:Int)<=1+y1%3 by omega)];rfl
 obtain⟨n,n1,n6,e3⟩:=key;have L:=oz (n:=min n m) (s:=5) (v:=λi=>(i:Int)) (J:=jR (x1 (biF re (x2 (va 3) (va 2)))))
  (F:=ab (aj 6 (evV (aa ixD (lsF (dpF (x2 (cS "queue") (cS "pile")))) (aa bj (clF st (x2 (va 0) (aa aC (aa aC (cI 50) (aa aL (cI 7) (va 1))) (va 5)))) (cI 2))))) (ab (aj 7 (evV (aa ixD (lsF (dpF (ae (cI 9) (ae (cI 9) (x6 (cI 9) (cI 9) (cI 9) (cI 2) (cI 3) (cI 1)))))) (aa bj (clF st (x2 (va 0) (aa aC (aa aC (cI 150) (aa aL (cI 7) (va 1))) (va 5)))) (cI 8))))) (ab (iM 4 (evX (tpF (x2 (va 6) (va 7))) noV (fTp (x2 (frX (va 6) noV noV) (frX (va 7) noV noV))))) nxE)))
  (Y:=[sn (.int c),sn (iN a),sn (iN m),dp (iN n),dp (.lst []),none,none,none])
  (λi Y=>∃o5 o6 o7,∃p:List Pk,p.length=i/\(∀k∈p,okK k=true/\(1:Int)<=k.2)/\Y=[sn (.int c),sn (iN a),sn (iN m),dp (iN n),dp (.lst (p.map pkD)),o5,o6,o7])
  (fA (by
   have hmn:(if(m:Int)<(n:Int)then(m:Int)else(n:Int))=((min n m:Nat):Int):=by split<;>omega
   simp only[sB,iW,ii,fB,ig,ox,yn,hmn];exact bv (by omega))) ⟨none,none,none,[],rfl,(λ_ h=>nomatch h),rfl⟩ (by
   rintro i Y hi ⟨o5,o6,o7,p,hl,hok,rfl⟩;obtain⟨y1,f1⟩:=hst c (50+7*a+i) (by omega) (by omega);obtain⟨y2,f2⟩:=hst c (150+7*a+i) (by omega) (by omega);have g2:=md y1 (show(0:Int)<2 by decide);have g8:=md y2 (show(0:Int)<8 by decide);obtain⟨d,⟨q,rfl⟩,eq⟩:=Br (ds:=[.str "queue",.str "pile"]) (i:=y1%2) (λd=>∃q,d=.str (kd q)) g2.1 g2.2 (by
    intro d hd;simp only[mem_cons,List.not_mem_nil,or_false]at hd;rcases hd with rfl|rfl
    ·exact⟨true,rfl⟩
    ·exact⟨false,rfl⟩)
   obtain⟨d,⟨w,w0,w9,rfl⟩,ew⟩:=Br (ds:=[.int 9,.int 9,.int 9,.int 9,.int 9,.int 2,.int 3,.int 1]) (i:=y2%8) (λd=>∃w:Int,1<=w/\w<=9/\d=.int w) g8.1 g8.2 (by
    intro d hd;simp only[mem_cons,List.not_mem_nil,or_false]at hd;rcases hd with rfl|rfl|rfl|rfl|rfl|rfl|rfl|rfl
    ·exact⟨9,by decide,by decide,rfl⟩
    ·exact⟨9,by decide,by decide,rfl⟩
    ·exact⟨9,by decide,by decide,rfl⟩
    ·exact⟨9,by decide,by decide,rfl⟩
    ·exact⟨9,by decide,by decide,rfl⟩
    ·exact⟨2,by decide,by decide,rfl⟩
    ·exact⟨3,by decide,by decide,rfl⟩
    ·exact⟨1,by decide,by decide,rfl⟩)
   refine⟨_,(ai (aW (evX_lf (d:=.str (kd q)) ?_ rfl))).trans ((ai (aW (evX_lf (d:=.int w) ?_ rfl))).trans (ai (di (ds:=p.map pkD) (ds0:=p.map pkD) (c0:=.deep) (d:=pkD (q,w)) rfl (evX_lf ?_ rfl) rfl ?_))),
    ⟨sn (iN i),dp (.str (kd q)),dp (.int w),p++[(q,w)],by simp[hl],λk hk=>?_,?_⟩⟩
   ·simp only[sB,m7,f1,mw _ 2 (by decide),Bl,eq]
   ·simp only[sB,yq,m7,f2,mw _ 8 (by decide),Bl,ew]
   ·simp only[sB,Cj,pkD]
   ·rw[length_map,hl];exact lt_of_le_of_lt (show i+1<=6 by omega) (by decide)
   ·rcases mem_append.mp hk with hk|hk
    ·exact hok k hk
    ·cases mem_singleton.mp hk;exact⟨by simp[okK,w9];omega,w0⟩
   ·simp only[List.map_append];rfl)
 obtain⟨Y',e4,o5,o6,o7,p,hl,hok,rfl⟩:=L;refine⟨p,Es (by omega) (by omega) (λk hk=>(hok k hk).1),λk hk=>(hok k hk).2,by omega,ao rfl ?_⟩;rw[hs];unfold fI;refine(yI e3).trans ((ai (aW (evX_lfs (d:=.lst []) (ds:=[]) (by rfl) rfl (by rfl) rfl))).trans ((ai e4).trans (aD (bt (evX_lf (d:=tpD p) ?_ (yy p))))));simp[vw_o,tpD]
noncomputable def oJ (f:Fn):Prop:=∀ns:List Int,ns.length<=63->∃ps:List (List Pk),Valid ps/\(∀p∈ps,∀k∈p,(1:Int)<=k.2)/\prod ps<=200/\f [scD ns]=dp (aK ps)
theorem y9 (hc:nI ce) (hp:lT po):oJ (aQ 1 4 (gm ce po)):=λns hn=>by
 have h8:(0:Int)<8:=by decide
 have hs:az 4 [scD ns]=[sn (scD ns),none,none,none]:=rfl;obtain⟨c0,e0⟩:=hc ns 0 hn (by decide);have e0':ce [scD ns,.int 0]=dp (.int c0):=e0;obtain⟨d,⟨n,h6,rfl⟩,en⟩:=Br (ds:=[.int 1,.int 2,.int 3,.int 6,.int 0,.int 3,.int 4,.int 2]) (i:=c0%8) (λd=>∃n:Nat,n<=6/\d=iN n) (md _ h8).1 (md _ h8).2 (by
  intro d hd;simp only[mem_cons,List.not_mem_nil,or_false]at hd;rcases hd with rfl|rfl|rfl|rfl|rfl|rfl|rfl|rfl
  ·exact⟨1,by decide,rfl⟩
  ·exact⟨2,by decide,rfl⟩
  ·exact⟨3,by decide,rfl⟩
  ·exact⟨6,by decide,rfl⟩
  ·exact⟨0,by decide,rfl⟩
  ·exact⟨3,by decide,rfl⟩
  ·exact⟨4,by decide,rfl⟩
  ·exact⟨2,by decide,rfl⟩)
 have L:=oz (n:=n) (s:=3) (v:=λi=>(i:Int))
  (J:=jR (x1 (aa ixD (lsF (dpF (ae (cI 1) (ae (cI 2) (x6 (cI 3) (cI 6) (cI 0) (cI 3) (cI 4) (cI 2)))))) (aa bj (clF ce (x2 (va 0) (cI 0))) (cI 8)))))
  (F:=ab (iM 1 (evC po (x3 (clF ce (x2 (va 0) (aa aC (cI 70) (va 3)))) (va 3) (biF gw (x2 (cI 1) (aa jL (cI 200) (va 2))))))) (ab (aj 2 (evV (aa aL (va 2) (lnF (aa ixD (va 1) (va 3)))))) nxE))
  (Y:=[sn (scD ns),dp (.lst []),dp (.int 1),none])
  (λi Y=>∃o3,∃ps:List (List Pk),ps.length=i/\(∀p∈ps,okP p=true/\∀k∈p,(1:Int)<=k.2)/\1<=prod ps/\prod ps<=200/\Y=[sn (scD ns),dp (.lst (ps.map tpD)),dp (.int (prod ps:Nat)),o3])
  (fA (by
   simp only[sB,iW,ii,fB,ig,ox,yq,e0',mw _ 8 h8,Bl,en];exact bv (by omega))) ⟨none,[],rfl,(λ_ h=>nomatch h),by decide,by decide,rfl⟩ (by
   rintro i Y hi ⟨o3,ps,hl,hok,hp1,hp2,rfl⟩;obtain⟨c1,e1⟩:=hc ns (70+i) hn (by omega);have ei:(70:Int)+(i:Int)=((70+i:Nat):Int):=by omega
   have hq:1<=200/prod ps:=(Nat.le_div_iff_mul_le (by omega)).mpr (by omega);have hmx:(if(200:Int)/(prod ps:Nat)>1 then(200:Int)/(prod ps:Nat)else 1)=((200/prod ps:Nat):Int):=by
    have:(200:Int)/(prod ps:Nat)=((200/prod ps:Nat):Int):=(Int.natCast_ediv 200 (prod ps)).symm;rw[this];split<;>omega
   obtain⟨p,okp,wp,lp,ep⟩:=hp c1 i (200/prod ps) (by omega) hq;have hb:prod ps*p.length<=200:=Nat.le_trans (Nat.mul_le_mul_left _ lp) (Nat.mul_div_le 200 (prod ps));have hp':1<=p.length/\p.length<=6:=by
    unfold okP at okp;rw[and_eq_true,and_eq_true]at okp;exact⟨of_decide_eq_true okp.1.1,of_decide_eq_true okp.1.2⟩
   have hlast:ixD (.lst (ps.map tpD++[tpD p])) (iN i)=some (tpD p):=by
    rw[show ps.map tpD++[tpD p]=(ps++[p]).map tpD by simp];exact bL (by rw[getElem?_append_right (by omega),hl];simp)
   have sp:seqD (tpD p)=some (p.map pkD):=rfl;refine⟨_,(ai (di (ds:=ps.map tpD) (ds0:=ps.map tpD) (c0:=.deep) (d:=tpD p) rfl (evX_lf ?_ (yy p)) rfl ?_)).trans (ai (aW (evX_lf (d:=iN (prod ps*p.length)) ?_ rfl))),
    ⟨sn (iN i),ps++[p],by simp[hl],λq hq=>?_,?_,by rw[bC];exact hb,?_⟩⟩
   ·simp only[sB,ei,e1,j9 (show(0:Int)<(prod ps:Nat)by omega) (show((prod ps:Nat):Int)<1073741824 by omega),ou,hmx,ep]
   ·rw[length_map,hl];exact lt_of_le_of_lt (show i+1<=6 by omega) (by decide)
   ·simp only[sB,hlast,b8,sp,length_map,uf (show prod ps<1000000 by omega)]
   ·rcases mem_append.mp hq with hq|hq
    ·exact hok q hq
    ·cases mem_singleton.mp hq;exact⟨okp,wp⟩
   ·rw[bC];exact Nat.mul_pos hp1 hp'.1
   ·rw[bC];simp only[List.map_append];rfl)
 obtain⟨Y',e,o3,ps,hl,hok,hp1,hp2,rfl⟩:=L;refine⟨ps,⟨by omega,λp hp=>(hok p hp).1,by omega⟩,λp hp=>(hok p hp).2,hp2,ao rfl ?_⟩;rw[hs];unfold gm;refine(ai (aW (evX_lfs (d:=.lst []) (ds:=[]) (by rfl) rfl (by rfl) rfl))).trans ((ai (aW (evX_lf (d:=.int 1) rfl rfl))).trans ((ai e).trans (aD (bt (evX_lf (d:=aK ps) ?_ (yz ps))))));simp[vw_o,aK]
end K20
namespace K20
open PySem PySem.Spec PyProof.Rows L2
noncomputable def lU (aO aY aP bo aZ bd aI:Fn):Ev->Option Out:=(ab (aj 3 (evC aI (x2 (va 0) (va 1)))) (ab (aj 4 (evC bd (x2 (va 3) (va 1)))) (ab (ifS (bP (trF (clF aZ (x3 (va 2) (cI 0) (aa cQ (clF bo (x3 (va 3) (va 4) (va 1))) (cI 1)))))) (ab noO' nxE) nxE) (ab (aj 5 (evX (liG (x1 (biF noD (x1 (va 1)))) (orO (lrF (x1 (va 1))) (l1F (x1 (biF noD (x1 (va 1))))))) (orO (lrF (x1 (va 1))) (l1F (x1 (biF noD (x1 (va 1)))))) (fNo (x1 (biF noD (x1 (va 1))))))) (ab (aj 6 evE) (ab (aj 7 (evV (cI 0))) (ab (aj 8 (evC aP (x2 (va 3) (va 1)))) (ab (aj 9 (evM 2 (evV (va 2)))) (ab (wlF (au (aa gtD (lnF (va 5)) (cI 0))) (ab (aj 10 (evC aY (x4 (va 3) (aa ixD (va 4) (aa cQ (lnF (va 5)) (cI 1))) (va 7) (va 8)))) (ab (aj 11 (evV (cI 0))) (ab (wlF (au (aa geD (va 9) (aa ixD (va 10) (va 11)))) (ab (aj 9 (evV (aa cQ (va 9) (aa ixD (va 10) (va 11))))) (ab (aj 11 (evV (aa aC (va 11) (cI 1)))) nxE))) (ab (aj 7 (evC aO (x4 (va 3) (va 7) (va 8) (va 11)))) (ab (aj 8 (evM 11 (evV (va 11)))) (ab (gpF 6 5 (va 11)) nxE))))))) (ab (rtN 6) nxE))))))))))
section
variable {f:Fn} {xs:Vv->Option (List D)} {Y:Ev} {ds:List D} {d:D}
theorem ev_cl (h:xs (vw Y)=some ds) (e:f ds=dp d) (nl:lfD d=false):evC f xs Y=some ((.deep,d),Y):=evX_call (by rw[clF_a,h,Option.bind_some,e];rfl) nl rfl (by rw[fCl_a,h,Option.bind_some,e];rfl)
theorem ev_cf (h:xs (vw Y)=some ds) (e:f ds=dp d) (nl:lfD d=true):evC f xs Y=some ((.deep,d),Y):=evX_lf (by rw[clF_a,h,Option.bind_some,e];rfl) nl
end
theorem lt_big (h:n<=1000):n<big:=lt_of_le_of_lt h (by decide)
def pre (g:Nat->Nat) (p:Nat):Nat:=((List.range p).map g).sum
theorem dE (g:Nat->Nat) (p:Nat):pre g (p+1)=pre g p+g p:=by
 unfold pre;rw[List.range_succ,List.map_append,List.sum_append];simp
theorem sI (g:Nat->Nat) (h:p<=q):pre g p<=pre g q:=by
 induction q with
 |zero=>rw[Nat.le_zero.mp h];exact le_refl _
 |succ q ih=>
  rw[dE];rcases Nat.lt_or_ge q p with z|z
  ·have:p=q+1:=by omega
   rw[this,dE];exact le_refl _
  ·have:=ih z;omega
theorem za:∀ {n:Nat},r<pre g n->∃p,p<n/\pre g p<=r/\r<pre g p+g p
 |0,h=>absurd h (Nat.not_lt_zero _)
 |n+1,h=>by
  rw[dE]at h;by_cases c:r<pre g n
  ·obtain⟨p,h1,h2⟩:=za c;exact⟨p,by omega,h2⟩
  ·exact⟨n,Nat.lt_succ_self _,by omega,h⟩
theorem zb (S:List Int) (l s b:Nat):W S (l+1) s b=pre (gg S l s b) (l+1):=rfl
theorem Cq:∀ (l s:Nat),s<S.length->0<W S l s (if S.getD s 0=1 then 0 else l)
 |0,s,_=>Nat.one_pos
 |l+1,s,h=>by
  have ih:=Cq l s h;rw[zb];have key:∀p b,p<=l->nxt S s (decide (b<=p))=s->0<W S l s p->0<pre (gg S l s b) (l+1):=λp b hp hn hw=>by
   have h1:=sI (gg S l s b) (show p+1<=l+1 by omega);rw[dE]at h1;have:gg S l s b p=W S l s p:=by unfold gg;rw[hn,if_pos h]
   omega
  by_cases c:S.getD s 0=1
  ·rw[if_pos c]at ih⊢;refine key 0 0 (Nat.zero_le _) ?_ ih;unfold nxt;rw[decide_eq_true c,decide_eq_true (le_refl 0)];rfl
  ·rw[if_neg c]at ih⊢;refine key l (l+1) (le_refl _) ?_ ih;unfold nxt;rw[decide_eq_false c,decide_eq_false (show¬l+1<=l by omega)];rfl
theorem zc (h:0<S.length):0<bq S m:=Cq m 0 (kf h).1
noncomputable def gl (U:List Int):Nat->Nat->Nat->List Nat->List (List Nat)
 |0,_,_,_=>[[]]
 |l+1,s,b,L=>(List.range (l+1)).flatMap λp=>if nxt U s (decide (b<=p))<U.length then(gl U l (nxt U s (decide (b<=p))) p (L.eraseIdx p)).map (List.cons (L.getD p 0))else[]
theorem oK {α:Type} (g:Nat->List α) (n:Nat):((List.range n).flatMap g).length=pre (λp=>(g p).length) n:=List.length_flatMap
theorem nJ (e:∀p,p<n->g p=h p):pre g n=pre h n:=congrArg List.sum (List.map_congr_left λp hp=>e p (List.mem_range.mp hp))
theorem Cr {α:Type}:∀ {n p q:Nat} (g:Nat->List α),p<n->q<(g p).length->((List.range n).flatMap g)[pre (λi=>(g i).length) p+q]?=(g p)[q]?
 |0,_,_,_,h,_=>absurd h (Nat.not_lt_zero _)
 |n+1,p,q,g,h,hq=>by
  rw[List.range_succ,List.flatMap_append,List.flatMap_singleton];by_cases c:p<n
  ·rw[getElem?_append_left,Cr g c hq];rw[oK];have:=sI (λi=>(g i).length) (show p+1<=n by omega);rw[dE]at this;omega
  ·have e:p=n:=by omega
   subst e;rw[getElem?_append_right (by rw[oK];omega),oK,Nat.add_sub_cancel_left]
theorem zd (ih:∀s b L,(gl U l s b L).length=W U l s b) (s b:Nat) (L:List Nat) (p:Nat):(if nxt U s (decide (b<=p))<U.length then(gl U l (nxt U s (decide (b<=p))) p (L.eraseIdx p)).map (List.cons (L.getD p 0))else[]).length=gg U l s b p:=by
 unfold gg;split
 ·rw[length_map,ih]
 ·rfl
theorem lV:∀ (l s b:Nat) (L:List Nat),(gl U l s b L).length=W U l s b
 |0,_,_,_=>rfl
 |l+1,s,b,L=>by
  unfold gl;rw[oK,zb];exact nJ λp _=>zd (lV l) s b L p
theorem Cs (hp:p<l+1) (c:nxt U s (decide (b<=p))<U.length) (hq:q<W U l (nxt U s (decide (b<=p))) p):(gl U (l+1) s b L)[pre (gg U l s b) p+q]?=((gl U l (nxt U s (decide (b<=p))) p (L.eraseIdx p))[q]?).map (List.cons (L.getD p 0)):=by
 have h:=Cr (n:=l+1) (p:=p) (q:=q) (λp=>if nxt U s (decide (b<=p))<U.length then(gl U l (nxt U s (decide (b<=p))) p (L.eraseIdx p)).map (List.cons (L.getD p 0))else[]) hp (by rw[if_pos c,length_map,lV];exact hq);rw[show pre (λi=>(if nxt U s (decide (b<=i))<U.length then(gl U l (nxt U s (decide (b<=i))) i (L.eraseIdx i)).map (List.cons (L.getD i 0))else[]).length) p=pre (gg U l s b) p from nJ λi _=>zd (lV l) s b L i,if_pos c,getElem?_map]at h;exact h
noncomputable def all (S:List Int) (m:Nat):List (List Nat):=gl (useS S m) m 0 (if(useS S m).getD 0 0=1 then 0 else m) (List.range m)
theorem ut (S:List Int) (m:Nat):(all S m).length=bq S m:=lV _ _ _ _
theorem ze (I:Nat->Ev->Prop) (hs:∀m Y,I (m+1) Y->c (vw Y)=some true/\∃Y',F Y=some (.nx Y')/\I m Y') (he:∀Y,I 0 Y->c (vw Y)=some false):∀ (m n:Nat) (Y:Ev),m<n->I m Y->∃Y',whF c F n Y=some (.nx Y')/\I 0 Y'
 |m,0,Y,h,_=>absurd h (Nat.not_lt_zero _)
 |0,n+1,Y,_,i=>⟨Y,by
   show(c (vw Y)).bind _=_;rw[he Y i];rfl,i⟩
 |m+1,n+1,Y,h,i=>by
  obtain⟨h1,Y1,h2,i1⟩:=hs m Y i;obtain⟨Y',e,i2⟩:=ze I hs he m n Y1 (by omega) i1;refine⟨Y',?_,i2⟩;show(c (vw Y)).bind _=_;rw[h1,Option.bind_some,if_pos rfl,h2];exact e
theorem HS {α:Type} {out:α->Option Out} {P:α->Prop} (I:Nat->Ev->Prop) (m:Nat) (hm:m<400) (h0:I m Y) (hs:∀m Y,I (m+1) Y->c (vw Y)=some true/\∃Y',F Y=some (.nx Y')/\I m Y') (he:∀Y,I 0 Y->c (vw Y)=some false) (k:∀Y',I 0 Y'->∃a,G Y'=out a/\P a):∃a,ab (wlF c F) G Y=out a/\P a:=by
 obtain⟨Y',e,i⟩:=ze I hs he m 400 Y hm h0;exact gC (show wlF c F Y=_ from e) (k Y' i)
theorem eO (r:List Nat):cq [rowD r]=some (.int (r.length:Int)):=by rw[b8,show seqD (rowD r)=some (r.map λ(k:Nat)=>D.int (k:Int))from rfl,Option.bind_some,length_map]
theorem zf {m l:Nat} (h:l<m) (hz:z=(l:Int)):ixD (tbs S m) (.int z)=some (tab S l):=by
 subst hz;exact bL (mk:=λl=>tab S l) (by rw[List.getElem?_range h])
noncomputable abbrev sR (d0 d1 d2:D) (U:List Int) (m:Nat) (L R:List Nat) (s b r:Nat) (o10 o11:Option Sl):Ev:=[sn d0,sn d1,sn d2,dp (itD U),dp (tbs U (m+1)),dp (rowD L),dp (rowD R),dp (iN s),dp (iN b),dp (iN r),o10,o11]
theorem EN (hi:fZ Y i=dp (rowD Rr)) (hj:fZ Y j=dp (rowD L)) (hij:i≠j) (hR:R (vw Y)=some (iN p)) (hp:p<L.length) (h1:L.length<=100) (h2:Rr.length<=100):
  gpF i j R Y=some (.nx ((Y.set j (dp (rowD (L.eraseIdx p)))).set i (dp (rowD (Rr++[L.getD p 0]))))):=by
 have d1:f8 Y i=some (Rr.map λ(k:Nat)=>D.int (k:Int)):=by unfold f8;rw[show eE Y i=some (.deep,Rr.map λ(k:Nat)=>D.int (k:Int))by unfold eE;rw[hi];rfl];rfl
 have d2:f8 Y j=some (L.map λ(k:Nat)=>D.int (k:Int)):=by unfold f8;rw[show eE Y j=some (.deep,L.map λ(k:Nat)=>D.int (k:Int))by unfold eE;rw[hj];rfl];rfl
 unfold gpF
 rw[d1,Option.bind_some,d2,Option.bind_some,hR,Option.bind_some]
 have e1:rP (L.map λ(k:Nat)=>D.int (k:Int)).length (iN p)=some p:=by
  rw[length_map];show(if 0<=(p:Int)/\(p:Int)<=(L.length:Int)then some (p:Int).toNat else none)=_;rw[if_pos ⟨by omega,by omega⟩,Int.toNat_natCast]
 have e2:(L.map λ(k:Nat)=>D.int (k:Int))[p]?=some (iN (L.getD p 0)):=by rw[getElem?_map,getElem?_eq_getElem hp,List.getD_eq_getElem?_getD,getElem?_eq_getElem hp];rfl
 rw[e1,Option.bind_some,e2,Option.bind_some,if_pos ⟨hij,rfl,by rw[length_map];exact lt_big (by omega),by rw[length_map];exact lt_big (by omega)⟩]
 have e3:(L.map λ(k:Nat)=>D.int (k:Int)).eraseIdx p=(L.eraseIdx p).map λ(k:Nat)=>D.int (k:Int):=by
  clear hp e1 e2 d2 hj h1 hR;induction L generalizing p with
  |nil=>rfl
  |cons a L ih=>cases p with
   |zero=>rfl
   |succ p=>show _::(L.map _).eraseIdx p=_::(L.eraseIdx p).map _;rw[ih]
 rw[e3]
 show some (Out.nx ((Y.set j (some (Cat.deep,D.lst _))).set i (some (Cat.deep,D.lst _))))=some (Out.nx ((Y.set j (some (Cat.deep,D.lst _))).set i (some (Cat.deep,D.lst _))))
 rw[List.map_append]
 rfl
noncomputable def sRa (fa f:Fn):Prop:=∀ (ps:List (List Pk)) (S:List Int) (m v:Nat),fa [af ps]=dp (itD S)->0<S.length->S.length<256->m<=24->v<bq S m->∃σ,(all S m)[v]?=some σ/\f [af ps,iN m,iN v]=dp (rowD σ)
theorem Kk (hsf:sSf sf) (hch:sCh ch) (hfb:sFb fb) (hia:sIa ia) (hwi:im wi) (hwl:sWl wl) (hus:sUs fa us):sRa fa (aQ 3 12 (lU sf ch fb ia wi wl us)):=λps S m v hf h0 hS hm hv=>by
 have e1:=hus ps S m hf;obtain⟨u1,u2⟩:=kf (m:=m) h0;obtain⟨σ,hσ⟩:∃σ,(all S m)[v]?=some σ:=⟨_,getElem?_eq_getElem (by rw[ut];exact hv)⟩;refine⟨σ,hσ,?_⟩;have hv:v<W (useS S m) m 0 (if(useS S m).getD 0 0=1 then 0 else m):=hv;unfold all at hσ;generalize useS S m=U at e1 u1 u2 hv hσ;have e2:=hwl U m u1 (by omega) (by omega);have e3:=hia U m u1;have e4:=hfb U m u1;have hs:az 12 [af ps,iN m,iN v]=[sn (af ps),sn (iN m),sn (iN v),none,none,none,none,none,none,none,none,none]:=rfl;have key:∃s,lU sf ch fb ia wi wl us [sn (af ps),sn (iN m),sn (iN v),none,none,none,none,none,none,none,none,none]=some (.rt (.deep,s))/\s=rowD σ:=by
  unfold lU;refine av (ev_cl (d:=itD U) (ds:=[af ps,iN m]) rfl e1 rfl) (av (ev_cl (d:=tbs U (m+1)) (ds:=[itD U,iN m]) rfl e2 rfl) (ql ?_ ?_))
  ·show bP (trF (clF wi _)) [some (af ps),some (iN m),some (iN v),some (itD U),some (tbs U (m+1)),none,none,none,none,none,none,none]=_;have c1:decide ((0:Int)<=(v:Int))=true:=decide_eq_true (by omega);have c2:decide ((v:Int)<=((W U m 0 (if U.getD 0 0=1 then 0 else m):Nat):Int)-1)=true:=decide_eq_true (by omega);simp only[sB,e3,hwi (v:Int) 0,c1,c2];rfl
  ·have lr:orO (lrF (x1 (va 1))) (l1F (x1 (biF noD (x1 (va 1))))) [some (af ps),some (iN m),some (iN v),some (itD U),some (tbs U (m+1)),none,none,none,none,none,none,none]=some ((List.range m).map λ(k:Nat)=>D.int (k:Int)):=by
    unfold orO;rw[show lrF (x1 (va 1)) [some (af ps),some (iN m),some (iN v),some (itD U),some (tbs U (m+1)),none,none,none,none,none,none,none]=some ((List.range m).map λ(k:Nat)=>D.int (k:Int))from sm hm]
   refine av (s:=(.deep,rowD (List.range m))) (evX_lfs (d:=rowD (List.range m)) (jF lr) rfl lr (bB λd hd=>by obtain⟨p,_,rfl⟩:=List.mem_map.mp hd;rfl)) (av (s:=(.deep,rowD [])) (evX_lfs (d:=.lst []) (ds:=[]) rfl rfl rfl rfl) (av (s:=(.deep,iN 0)) (evX_lf rfl rfl) (av (ev_cf (ds:=[itD U,iN m]) rfl e4 rfl) (av (s:=(.deep,iN v)) (evM_lf rfl rfl rfl) ?_))));show∃s,ab (wlF _ _) _ (sR (af ps) (iN m) (iN v) U m (List.range m) [] 0 (if U.getD 0 0=1 then 0 else m) v none none)=some (.rt (.deep,s))/\s=rowD σ;refine HS (λk Y=>∃L R s b r o10 o11,L.length=k/\R.length+k=m/\s<U.length/\r<W U k s b/\(∃τ,(gl U k s b L)[r]?=some τ/\R++τ=σ)/\Y=sR (af ps) (iN m) (iN v) U m L R s b r o10 o11) m (by omega) ⟨List.range m,[],0,_,v,none,none,length_range,by simp,u1,hv,⟨σ,hσ,rfl⟩,rfl⟩ ?_ ?_ ?_
   ·rintro l Y ⟨L,R,s,b,r,o10,o11,hL,hR,hs,hr,⟨τ,ht,hτ⟩,rfl⟩;have lg:∀o10 o11,au (aa gtD (lnF (va 5)) (cI 0)) (vw (sR (af ps) (iN m) (iN v) U m L R s b r o10 o11))=some true:=λo10 o11=>by
     simp only[sB,sR,eO,r6];rw[decide_eq_true (by omega)]
    refine⟨lg o10 o11,?_⟩;have ec:=hch U l s b u1 hs (by omega);rw[zb]at hr;obtain⟨P,hP,p1,p2⟩:=za hr;refine av (s:=(.deep,.lst (vec (l+1) (gg U l s b)))) (Y':=sR (af ps) (iN m) (iN v) U m L R s b r o10 o11) (ev_cl (ds:=[itD U,tab U l,iN s,iN b]) ?_ ec rfl) (av (s:=(.deep,iN 0)) (evX_lf rfl rfl) ?_)
    ·simp only[sB,sR,eO,zf (m:=m+1) (l:=l) (show l<m+1 by omega) (show(L.length:Int)-1=(l:Int)by omega)]
    ·show∃a,ab (wlF _ _) _ (sR (af ps) (iN m) (iN v) U m L R s b r (dp (.lst (vec (l+1) (gg U l s b)))) (dp (iN 0)))=some (.nx a)/\_;refine HS (λk Y=>∃p,p+k=P/\Y=sR (af ps) (iN m) (iN v) U m L R s b (r-pre (gg U l s b) p) (dp (.lst (vec (l+1) (gg U l s b)))) (dp (iN p))) P (by omega) ⟨0,Nat.zero_add _,rfl⟩ ?_ ?_ ?_
     ·rintro k Y ⟨p,hp,rfl⟩;have q1:=sI (gg U l s b) (show p+1<=P by omega);rw[dE]at q1;have iv:ixD (.lst (vec (l+1) (gg U l s b))) (iN p)=some (iN (gg U l s b p)):=oH (by omega) rfl;refine⟨?_,av (s:=(.deep,iN (r-pre (gg U l s b) (p+1)))) (Y':=sR (af ps) (iN m) (iN v) U m L R s b (r-pre (gg U l s b) p) (dp (.lst (vec (l+1) (gg U l s b)))) (dp (iN p))) (evX_lf ?_ rfl) (av (s:=(.deep,iN (p+1))) (Y':=sR (af ps) (iN m) (iN v) U m L R s b (r-pre (gg U l s b) (p+1)) (dp (.lst (vec (l+1) (gg U l s b)))) (dp (iN p))) (evX_lf ?_ rfl) (gf ⟨p+1,by omega,rfl⟩))⟩
      ·simp only[sB,sR,iv,ur];rw[decide_eq_true (by omega)]
      ·simp only[sB,sR,iv];rw[dE];exact congrArg some (congrArg D.int (by omega))
      ·simp only[sB,sR];rfl
     ·rintro Y ⟨p,hp,rfl⟩;have hp:p=P:=by omega
      subst hp;have iv:ixD (.lst (vec (l+1) (gg U l s b))) (iN p)=some (iN (gg U l s b p)):=oH (by omega) rfl;simp only[sB,sR,iv,ur];rw[decide_eq_false (by omega)]
     ·rintro Y ⟨p,hp,rfl⟩;have hp:p=P:=by omega
      subst hp;have lt:r-pre (gg U l s b) p<gg U l s b p:=by omega
      have fu:nxt U s (decide (b<=p))<U.length/\r-pre (gg U l s b) p<W U l (nxt U s (decide (b<=p))) p:=by
       unfold gg at lt;split at lt
       ·rename_i c;exact⟨c,lt⟩
       ·omega
      obtain⟨τ',t1,t2⟩:∃τ',(gl U l (nxt U s (decide (b<=p))) p (L.eraseIdx p))[r-pre (gg U l s b) p]?=some τ'/\L.getD p 0::τ'=τ:=by
       have:=Cs (L:=L) hP fu.1 fu.2;rw[show pre (gg U l s b) p+(r-pre (gg U l s b) p)=r by omega,ht]at this;cases e:(gl U l (nxt U s (decide (b<=p))) p (L.eraseIdx p))[r-pre (gg U l s b) p]? with
       |none=>rw[e]at this;cases this
       |some τ'=>rw[e]at this;exact⟨τ',rfl,(Option.some.inj this).symm⟩
      refine av (s:=(.deep,iN (nxt U s (decide (b<=p))))) (Y':=sR (af ps) (iN m) (iN v) U m L R s b (r-pre (gg U l s b) p) (dp (.lst (vec (l+1) (gg U l s b)))) (dp (iN p))) (ev_cf (ds:=[itD U,iN s,iN b,iN p]) rfl (hsf U s b p hs) rfl) ?_;refine av (s:=(.deep,iN p)) (Y':=sR (af ps) (iN m) (iN v) U m L R (nxt U s (decide (b<=p))) b (r-pre (gg U l s b) p) (dp (.lst (vec (l+1) (gg U l s b)))) (dp (iN p))) (evM_lf rfl rfl rfl) ?_;exact qp (EN (L:=L) (Rr:=R) (p:=p) rfl rfl (by decide) rfl (by omega) (by omega) (by omega)) ⟨L.eraseIdx p,R++[L.getD p 0],nxt U s (decide (b<=p)),p,r-pre (gg U l s b) p,dp (.lst (vec (l+1) (gg U l s b))),dp (iN p),by rw[List.length_eraseIdx_of_lt (by omega)];omega,by rw[length_append];show R.length+1+l=m;omega,fu.1,fu.2,⟨τ',t1,by rw[<-hτ,<-t2,List.append_assoc];rfl⟩,rfl⟩
   ·rintro Y ⟨L,R,s,b,r,o10,o11,hL,hR,hs,hr,_,rfl⟩;simp only[sB,sR,eO,r6];rw[decide_eq_false (by omega)]
   ·rintro Y ⟨L,R,s,b,r,o10,o11,hL,hR,hs,hr,⟨τ,ht,hτ⟩,rfl⟩;have z:τ=[]:=by
     cases r with
     |zero=>exact(Option.some.inj ht).symm
     |succ r=>cases ht
    subst z;rw[List.append_nil]at hτ;subst hτ;exact⟨_,rfl,rfl⟩
 obtain⟨s,e,z⟩:=key;subst z;exact ao rfl (by rw[hs];exact e)
end K20
namespace K20
open PySem PySem.Spec PyProof.Rows L2
noncomputable def fJ (aO aY aP bd aI fX:Fn):Ev->Option Out:=(ab (ifS (bP (trF (clF fX (x2 (va 0) (va 1))))) (ab noO' nxE) nxE) (ab (aj 2 (evC aI (x2 (va 0) (lnF (va 1))))) (ab (aj 3 (evC bd (x2 (va 2) (lnF (va 1))))) (ab (aj 4 (evX (liG (x1 (va 1)) (s1F (x1 (va 1)))) (s1F (x1 (va 1))) (fNo (x1 (va 1))))) (ab (aj 5 (evV (cI 0))) (ab (aj 6 (evC aP (x2 (va 2) (lnF (va 1))))) (ab (aj 7 (evV (cI 0))) (ab (frF (jX noV (va 1)) (eNm 8) (ab (aj 9 (evV (A7 (va 4) (va 8)))) (ab (xI 4 (va 9)) (ab (aj 7 (evV (aa aC (va 7) (biF nV (x1 (slF (clF aY (x4 (va 2) (aa ixD (va 3) (lnF (va 4))) (va 5) (va 6))) noP (cZ (va 9)))))))) (ab (aj 5 (evC aO (x4 (va 2) (va 5) (va 6) (va 9)))) (ab (aj 6 (evM 9 (evV (va 9)))) nxE)))))) (ab (rtN 7) nxE)))))))))
theorem zg (h:k<=n):rP n (iN k)=some k:=by
 show(if 0<=(k:Int)/\(k:Int)<=(n:Int)then some (k:Int).toNat else none)=some k;rw[if_pos ⟨by omega,by omega⟩,Int.toNat_natCast]
theorem EO (h0:eE Y i=some (.deep,ds)) (hk:R (shv Y)=some (iN k)) (hkl:k<ds.length) (hl:ds.length<big):
  xI i R Y=some (.nx (Y.set i (dp (.lst (ds.eraseIdx k))))):=by
 unfold xI
 simp only[h0,hk,Option.bind_some,zg (Nat.le_of_lt hkl)]
 rw[if_pos ⟨hkl,hl⟩]
 rfl
theorem zh:∀ (L:List Nat) (p:Nat),(L.map λ(k:Nat)=>D.int (k:Int)).eraseIdx p=(L.eraseIdx p).map λ(k:Nat)=>D.int (k:Int)
 |[],_=>rfl
 |a::L,0=>rfl
 |a::L,p+1=>by
  show D.int (a:Int)::(L.map λ(k:Nat)=>D.int (k:Int)).eraseIdx p=D.int (a:Int)::(L.eraseIdx p).map λ(k:Nat)=>D.int (k:Int);rw[zh L p]
theorem zi:∀ {r:List Nat},a∈r->∃p,p<r.length/\r.getD p 0=a/\vm (a:Int) (r.map λ(k:Nat)=>(k:Int))=some p
 |[],h=>by cases h
 |x::r,h=>by
  unfold vm;rw[List.map_cons,List.findIdx?_cons];by_cases e:x=a
  ·subst e;exact⟨0,Nat.succ_pos _,rfl,by simp⟩
  ·have ha:a∈r:=(mem_cons.mp h).resolve_left (λz=>e z.symm);obtain⟨p,h1,h2,ih⟩:=zi ha;unfold vm at ih;have e':((x:Int)==(a:Int))=false:=by simp;omega
   rw[e',ih];exact⟨p+1,Nat.succ_lt_succ h1,h2,rfl⟩
noncomputable def Stt (U:List Int) (n:Nat) (F:List (List Nat)) (L:List Nat) (s b:Nat):Prop:=
 (F=[]/\s=0/\b=(if U.getD 0 0=1 then 0 else n)/\L.length<=n)\/(0<F.length/\s+1=F.length/\lx F ∉ L/\b=L.countP λz=>decide (z<lx F))
theorem EQ (h:s<max n 1):(useS S n).getD s 0=S.getD s 0:=by
 unfold useS;rw[List.getD_eq_getElem?_getD,List.getD_eq_getElem?_getD,List.getElem?_take,if_pos h]
theorem Stt.lt (st:Stt (useS S n) n F L s b) (g:Gd S i F) (hi:i<=n) (h0:0<S.length):s<(useS S n).length:=by
 have h1:=g.le;have h2:=g.lk;unfold useS;rw[List.length_take];rcases st with⟨_,rfl,_⟩|⟨_,e,_⟩<;>omega
theorem Ct {L:List Nat} (g:Gd S i F) (hi:i<n) (hF:0<F.length) (hsF:s+1=F.length) (hn:lx F ∉ L) (hs:L.Pairwise (·<·)) (hp:p<L.length) (hx:L.getD p 0=x):
  nxt (useS S n) s (decide ((L.countP λz=>decide (z<lx F))<=p))=if okG S F x=true then s else s+1:=by
 have h2:=g.lk
 have ed:decide ((L.countP λz=>decide (z<lx F))<=p)=decide (lx F<x):=by
  have:=srt_at hs hn hp;rw[hx]at this;by_cases c:lx F<x
  ·rw[decide_eq_true c,decide_eq_true (this.mp c)]
  ·rw[decide_eq_false c,decide_eq_false (λz=>c (this.mpr z))]
 have eo:okG S F x=(decide (lx F<x)==decide ((useS S n).getD s 0=1)):=by
  unfold okG;rw[decide_eq_true hF,Bool.true_and,EQ (show s<max n 1 by omega),show s=F.length-1 by omega]
 unfold nxt
 rw[ed,<-eo]
theorem uu (g:Gd S i F) (hi:i<n) (st:Stt (useS S n) n F L s b) (hs:L.Pairwise (·<·)) (hp:p<L.length) (hx:L.getD p 0=x) (e:grow S F x=some F'):
  Stt (useS S n) n F' (L.eraseIdx p) (nxt (useS S n) s (decide (b<=p))) p:=by
 obtain⟨_,g2,g3⟩:=fV g e
 refine .inr ⟨g2,?_,by rw[g3,<-hx];exact EB hs hp,by rw[g3,<-hx];exact(yU hs hp).symm⟩
 unfold grow at e
 rcases st with⟨rfl,rfl,rfl,hl⟩|⟨hF,hsF,hn,rfl⟩
 ·have c:¬okG S [] x=true:=λz=>absurd (ke z) (by simp);rw[if_neg c]at e;split at e
  ·cases e;unfold nxt;by_cases q:(useS S n).getD 0 0=1
   ·rw[if_pos q,decide_eq_true q,decide_eq_true (Nat.zero_le p)];rfl
   ·rw[if_neg q,decide_eq_false q,decide_eq_false (show¬n<=p by omega)];rfl
  ·cases e
 ·rw[Ct g hi hF hsF hn hs hp hx];by_cases c:okG S F x=true
  ·rw[if_pos c]at e⊢;cases e;rw[List.length_set];exact hsF
  ·rw[if_neg c]at e⊢;split at e
   ·cases e;rw[length_append,hsF];rfl
   ·cases e
theorem zj (h0:0<S.length):∀ (l i s b:Nat) (F:List (List Nat)) (L:List Nat),i+l=n->L.length=l->Gd S i F->Stt (useS S n) n F L s b->L.Pairwise (·<·)->
  (pm l L).filter (λτ=>(τ.foldlM (grow S) F).isSome)=gl (useS S n) l s b L
 |0,i,s,b,F,L,_,_,_,_,_=>rfl
 |l+1,i,s,b,F,L,hi,hl,g,st,hs=>by
  unfold pm gl;rw[hl,List.filter_flatMap,List.flatMap_def,List.flatMap_def];refine congrArg List.flatten (List.map_congr_left λp hp=>?_);have hp:=List.mem_range.mp hp;have hp':p<L.length:=by omega
  rw[List.filter_map];cases e:grow S F (L.getD p 0)with
  |some F'=>
   have st':=uu g (by omega) st hs hp' rfl e;have g':=(fV g e).1;rw[if_pos (st'.lt g' (by omega) h0),<-zj h0 l (i+1) _ _ F' _ (by omega) (eH hp' hl) g' st' (hs.sublist (List.eraseIdx_sublist _ _))];refine congrArg (List.map _) (congrArg (λf=>List.filter f _) (funext λτ=>?_));show((L.getD p 0::τ).foldlM (grow S) F).isSome=_;rw[List.foldlM_cons,e];rfl
  |none=>
   rw[if_neg,List.filter_eq_nil_iff.mpr]
   ·rfl
   ·intro τ _;show¬ ((L.getD p 0::τ).foldlM (grow S) F).isSome=true;rw[List.foldlM_cons,e];exact Bool.false_ne_true
   ·unfold grow at e;split at e
    ·cases e
    ·rename_i c;split at e
     ·cases e
     ·rename_i d;rcases st with⟨rfl,_⟩|⟨hF,hsF,hn,rfl⟩
      ·exact absurd h0 d
      ·rw[Ct g (by omega) hF hsF hn hs hp' rfl,if_neg c];have:(useS S n).length<=S.length:=by unfold useS;rw[List.length_take];omega
       omega
theorem HU (S:List Int) (n:Nat):Stt (useS S n) n [] (List.range n) 0 (if(useS S n).getD 0 0=1 then 0 else n):=.inl ⟨rfl,rfl,rfl,by rw[length_range];exact le_refl _⟩
theorem uv (h0:0<S.length) (n:Nat):(pm n (List.range n)).filter (λσ=>(eN S σ).isSome)=all S n:=zj h0 n 0 0 _ [] _ (Nat.zero_add _) length_range (gd0 S) (HU S n) List.pairwise_lt_range
theorem vH (h0:0<S.length) (n:Nat):(all S n).Nodup:=by
 rw[<-uv h0];exact(qt n _ length_range (List.pairwise_lt_range.imp λh=>Nat.ne_of_lt h)).sublist List.filter_sublist
theorem ER (g:Nat->Nat) (h:p<=k):(vec k g).take p=vec p g:=by
 unfold vec;rw[<-List.map_take,List.take_range,Nat.min_eq_left h]
theorem zk (hr:(eN S r).isSome=true) (hx:r[i]?=some x) (hF:(r.take i).foldlM (grow S) []=some F):∃F',grow S F x=some F'/\(r.take (i+1)).foldlM (grow S) []=some F':=by
 have hi:=(List.getElem?_eq_some_iff.mp hx).1;have e1:r.take (i+1)=r.take i++[x]:=by rw[List.take_succ,hx];rfl
 have e2:r=r.take (i+1)++r.drop (i+1):=(List.take_append_drop _ _).symm;have e3:(r.take (i+1)).foldlM (grow S) []=grow S F x:=by
  rw[e1,List.foldlM_append,hF];show(grow S F x).bind (λz=>some z)=_;cases grow S F x<;>rfl
 cases e:grow S F x with
 |some F'=>exact⟨F',rfl,e3.trans e⟩
 |none=>
  unfold eN at hr;rw[e2,List.foldlM_append,e3,e]at hr;cases hr
noncomputable abbrev sN (d0 d1:D) (U:List Int) (m:Nat) (L:List Nat) (s b v:Nat) (o8 o9:Option Sl):Ev:=[sn d0,sn d1,dp (itD U),dp (tbs U (m+1)),dp (rowD L),dp (iN s),dp (iN b),dp (iN v),o8,o9]
noncomputable def sNo (fa f:Fn):Prop:=∀ (ps:List (List Pk)) (S:List Int) (r:List Nat) (n:Nat),fa [af ps]=dp (itD S)->0<S.length->S.length<256->r.Perm (List.range n)->n<=24->(eN S r).isSome=true->∃v:Nat,(all S n)[v]?=some r/\f [af ps,rowD r]=dp (iN v)
theorem Kl (hsf:sSf sf) (hch:sCh ch) (hfb:sFb fb) (hwl:sWl wl) (hus:sUs fa us) (hco:y6 fa co):sNo fa (aQ 2 10 (fJ sf ch fb wl us co)):=λps S r n hf h0 hS pm hn hr=>by
 have e0:=hco ps S r n hf pm hn;rw[hr]at e0;have e1:=hus ps S n hf;have hl:r.length=n:=by rw[pm.length_eq,length_range]
 obtain⟨u1,u2⟩:=kf (m:=n) h0;have e2:=hwl (useS S n) n u1 (by omega) (by omega);have e4:=hfb (useS S n) n u1;have nl:cq [rowD r]=some (iN n):=by rw[eO,hl]
 have hs:az 10 [af ps,rowD r]=[sn (af ps),sn (rowD r),none,none,none,none,none,none,none,none]:=rfl;have key:∃s,fJ sf ch fb wl us co [sn (af ps),sn (rowD r),none,none,none,none,none,none,none,none]=some (.rt (.deep,s))/\∃v:Nat,s=iN v/\(all S n)[v]?=some r:=by
  unfold fJ;refine ql ?_ (av (s:=(.deep,itD (useS S n))) (ev_cl (ds:=[af ps,iN n]) ?_ e1 rfl) (av (s:=(.deep,tbs (useS S n) (n+1))) (ev_cl (ds:=[itD (useS S n),iN n]) ?_ e2 rfl) ?_))
  ·simp only[sB,e0];rfl
  ·simp only[sB,nl]
  ·simp only[sB,nl]
  ·have s1:s1F (x1 (va 1)) (vw [sn (af ps),sn (rowD r),dp (itD (useS S n)),dp (tbs (useS S n) (n+1)),none,none,none,none,none,none])=some ((List.range n).map λ(k:Nat)=>D.int (k:Int)):=by
    show(x1 (va 1) _).bind bT=_;simp only[sB,fS (lN pm hn)]
   refine av (s:=(.deep,rowD (List.range n))) (Y':=[sn (af ps),sn (rowD r),dp (itD (useS S n)),dp (tbs (useS S n) (n+1)),none,none,none,none,none,none]) (evX_lfs (d:=rowD (List.range n)) (jF s1) rfl s1 (bB λd hd=>by obtain⟨p,_,rfl⟩:=List.mem_map.mp hd;rfl)) (av (s:=(.deep,iN 0)) (evX_lf rfl rfl) (av (ev_cf (ds:=[itD (useS S n),iN n]) ?_ e4 rfl) (av (s:=(.deep,iN 0)) (evX_lf rfl rfl) ?_)))
   ·simp only[sB,nl]
   ·show∃s,ab (frF _ _ _) _ (sN (af ps) (rowD r) (useS S n) n (List.range n) 0 (if(useS S n).getD 0 0=1 then 0 else n) 0 none none)=some (.rt (.deep,s))/\∃v:Nat,s=iN v/\(all S n)[v]?=some r;refine uh (xs:=r) (mk:=λ(k:Nat)=>D.int (k:Int)) (λi Y=>∃F L s b v o8 o9,(r.take i).foldlM (grow S) []=some F/\Gd S i F/\L.Pairwise (·<·)/\L.Perm (r.drop i)/\Stt (useS S n) n F L s b/\(∀q,(gl (useS S n) (n-i) s b L)[q]?=some (r.drop i)->(all S n)[v+q]?=some r)/\Y=sN (af ps) (rowD r) (useS S n) n L s b v o8 o9) ?_ ⟨[],List.range n,0,_,0,none,none,rfl,gd0 S,List.pairwise_lt_range,pm.symm,HU S n,λq hq=>by rw[Nat.zero_add];exact hq,rfl⟩ ?_ ?_
    ·simp only[sB,sN,db,iW];rfl
    ·rintro i x Y hx ⟨F,L,s,b,v,o8,o9,hF,g,hs,hp,st,hv,rfl⟩;have hi:=(List.getElem?_eq_some_iff.mp hx).1;obtain⟨F',eg,eF⟩:=zk hr hx hF;have ed:r.drop i=x::r.drop (i+1):=by rw[List.drop_eq_getElem_cons hi,(List.getElem?_eq_some_iff.mp hx).2]
     rw[ed]at hp;rw[ed]at hv;have hLl:L.length=n-i:=by rw[hp.length_eq,length_cons,List.length_drop];omega
     obtain⟨p,p1,p2,p3⟩:=zi (hp.mem_iff.mpr mem_cons_self);have st':=uu g (by omega) st hs p1 p2 eg;have sl:=st.lt g (by omega) h0;have sl':=st'.lt (fV g eg).1 (by omega) h0;have hv':∀q,(gl (useS S n) (n-(i+1)) (nxt (useS S n) s (decide (b<=p))) p (L.eraseIdx p))[q]?=some (r.drop (i+1))->(all S n)[v+pre (gg (useS S n) (n-i-1) s b) p+q]?=some r:=λq hq=>by
      rw[show n-(i+1)=n-i-1 by omega]at hq;have hq':=(List.getElem?_eq_some_iff.mp hq).1;rw[lV]at hq';rw[Nat.add_assoc];refine hv _ ?_;have:=Cs (L:=L) (show p<n-i-1+1 by omega) sl' hq';rw[hq,p2,show n-i-1+1=n-i by omega]at this;exact this
     have l':(L.eraseIdx p).length=n-i-1:=by rw[List.length_eraseIdx_of_lt p1];omega
     have ec:=hch (useS S n) (n-i-1) s b u1 sl (by omega);refine BE (Y1:=sN (af ps) (rowD r) (useS S n) n L s b v (sn (iN x)) o9) rfl (av (s:=(.deep,iN p)) (Y':=sN (af ps) (rowD r) (useS S n) n L s b v (sn (iN x)) o9) (evX_lf ?_ rfl) (gC (Y':=sN (af ps) (rowD r) (useS S n) n (L.eraseIdx p) s b v (sn (iN x)) (dp (iN p))) ((EO (ds:=L.map λ(k:Nat)=>D.int (k:Int)) (k:=p) rfl rfl (by rw[length_map];exact p1) (by rw[length_map];exact lt_big (by omega))).trans (by rw[zh];rfl)) ?_))
     ·simp only[sB,sN,A7,show eV (rowD L)=some (L.map λ(k:Nat)=>D.int (k:Int))from rfl,cw,show L2.intD (iN x)=some (x:Int)from rfl,p3]
     ·have ec':clF ch (x4 (va 2) (aa ixD (va 3) (lnF (va 4))) (va 5) (va 6)) (vw (sN (af ps) (rowD r) (useS S n) n (L.eraseIdx p) s b v (sn (iN x)) (dp (iN p))))=some (.lst (vec (n-i-1+1) (gg (useS S n) (n-i-1) s b))):=by
       simp only[sB,sN,eO,l',zf (m:=n+1) (l:=n-i-1) (show n-i-1<n+1 by omega) rfl,ec]
      have es:slF (clF ch (x4 (va 2) (aa ixD (va 3) (lnF (va 4))) (va 5) (va 6))) noP (cZ (va 9)) (vw (sN (af ps) (rowD r) (useS S n) n (L.eraseIdx p) s b v (sn (iN x)) (dp (iN p))))=some (.lst (vec p (gg (useS S n) (n-i-1) s b))):=by
       rw[sH ec' (k:=p) rfl,ER _ (by omega)]
      refine av (s:=(.deep,iN (v+pre (gg (useS S n) (n-i-1) s b) p))) (Y':=sN (af ps) (rowD r) (useS S n) n (L.eraseIdx p) s b v (sn (iN x)) (dp (iN p))) (evX_lf ?_ rfl) ?_
      ·rw[bin2_a,biF_a,vB,consX_a,es,Option.bind_some,nilX_a,Option.bind_some,Option.bind_some,uq];rfl
      ·refine av (s:=(.deep,iN (nxt (useS S n) s (decide (b<=p))))) (Y':=sN (af ps) (rowD r) (useS S n) n (L.eraseIdx p) s b (v+pre (gg (useS S n) (n-i-1) s b) p) (sn (iN x)) (dp (iN p))) (ev_cf (ds:=[itD (useS S n),iN s,iN b,iN p]) rfl (hsf (useS S n) s b p sl) rfl) ?_;refine av (s:=(.deep,iN p)) (Y':=sN (af ps) (rowD r) (useS S n) n (L.eraseIdx p) (nxt (useS S n) s (decide (b<=p))) b (v+pre (gg (useS S n) (n-i-1) s b) p) (sn (iN x)) (dp (iN p))) (evM_lf rfl rfl rfl) (gf ⟨F',L.eraseIdx p,_,p,_,_,_,eF,(fV g eg).1,hs.sublist (List.eraseIdx_sublist _ _),?_,st',hv',rfl⟩);have:=(dC p1).trans hp;rw[p2]at this;exact this.cons_inv
    ·rintro Y ⟨F,L,s,b,v,o8,o9,hF,g,hs,hp,st,hv,rfl⟩;refine⟨_,rfl,v,rfl,hv 0 ?_⟩;rw[hl,Nat.sub_self,List.drop_eq_nil_of_le (by omega)];rfl
 obtain⟨s,e,v,z,hv⟩:=key;subst z;exact⟨v,hv,ao rfl (by rw[hs];exact e)⟩
end K20
namespace K20
open PySem PySem.Spec PyProof.Rows L2
noncomputable def fK:Ev->Option Out:=(ab (ifS (au (aa (aN false) (va 0) (cI 1))) (rtF (evV (aa ltD (va 1) (va 2)))) nxE) (rtF (evV (aa ltD (va 2) (va 1)))))
noncomputable def gD (cj:Fn):Ev->Option Out:=(ab (aj 2 (evX noV noV (dcO 0 true))) (ab (frF (jX noV (slF (va 0) noP (cZ (aa aC (lnF (va 1)) (cI 1))))) (eNm 3) (ab (aj 4 (evX noV noV dcN)) (ab (xK 2 (eNm 5) (ab (p9 4 (va 5) (evV (cB true)) (cB true)) (ab (aj 6 (evV (aa aC (va 5) (cI 1)))) (ab (aj 7 (evV (aa ltD (va 5) (lnF (va 1))))) (ab (wlF (trF (va 7)) (ab (p9 4 (va 6) (evV (cB true)) (cB true)) (ab (aj 6 (evV (aa aC (va 6) (cI 1)))) (ab (aj 7 (evV (eU (aa leD (va 6) (lnF (va 1))) (clF cj (x3 (va 3) (aa ixD (va 1) (aa cQ (va 6) (cI 2))) (aa ixD (va 1) (aa cQ (va 6) (cI 1)))))))) nxE)))) nxE))))) (ab (aj 2 (evM 4 (evV (va 4)))) nxE)))) (rtF (evV (aa inD (lnF (va 1)) (va 2))))))
def gs (s:Int) (x y:Nat):Bool:=if s=1 then decide (x<y)else decide (y<x)
def Mn (s:Int) (r:List Nat) (a b:Nat):Prop:=∀i,a<=i->i+1<b->gs s (r.getD i 0) (r.getD (i+1) 0)=true
noncomputable def Rc (S:List Int) (r:List Nat):Nat->Nat->Prop
 |0,b=>b=0
 |j+1,b=>∃e,Rc S r j e/\e<=b/\b<=r.length/\Mn (S.getD j 0) r e b
theorem Mn.sub (h:Mn s r a b) (h1:a<=c) (h2:d<=b):Mn s r c d:=λi hi hj=>h i (by omega) (by omega)
theorem zm (h:b<=a+1):Mn s r a b:=λi hi hj=>absurd hj (by omega)
theorem Cu:∀ {j b:Nat},Rc S r j b->b<=r.length
 |0,b,h=>by cases(show b=0 from h);exact Nat.zero_le _
 |j+1,b,⟨_,_,_,h,_⟩=>h
theorem uw (h:Rc S r j b) (hk:j<=k):Rc S r k b:=by
 induction k with
 |zero=>rwa [Nat.le_zero.mp hk]at h
 |succ k ih=>
  by_cases c:j=k+1
  ·rwa [c]at h
  ·exact⟨b,ih (by omega),le_refl _,Cu h,zm (by omega)⟩
theorem HV (h:0<F.length) (hx:x≠lx F):okG S F x=gs (S.getD (F.length-1) 0) (lx F) x:=by
 unfold okG gs;rw[decide_eq_true h,Bool.true_and];by_cases c:S.getD (F.length-1) 0=1
 ·rw[decide_eq_true c,if_pos c];cases decide (lx F<x)<;>rfl
 ·rw[decide_eq_false c,if_neg c];by_cases d:lx F<x
  ·rw[decide_eq_true d,decide_eq_false (by omega)];rfl
  ·rw[decide_eq_false d,decide_eq_true (by omega)];rfl
noncomputable def Gr (S:List Int) (r:List Nat) (i:Nat) (F:List (List Nat)):Prop:=i=0/\F=[]\/∃a,0<F.length/\a<i/\lx F=r.getD (i-1) 0/\Mn (S.getD (F.length-1) 0) r a i/\Rc S r (F.length-1) a/\∀e,Rc S r (F.length-1) e->e<=a
theorem ES (hs:s=S.getD k 0) (hx:r[i]?=some x) (ha:a<i) (hm:∀e,Rc S r k e->e<=a) (hn:gs s (r.getD (i-1) 0) x=false):∀b,Rc S r (k+1) b->b<=i:=λb ⟨e,h1,h2,h3,h4⟩=>by
 rcases Nat.lt_or_ge i b with z|z
 ·have:=h4 (i-1) (by have:=hm e h1;omega) (by omega);rw[show i-1+1=i by omega,show r.getD i 0=x by rw[List.getD_eq_getElem?_getD,hx];rfl,<-hs,hn]at this;cases this
 ·exact z
theorem zn (hn:r.Nodup) (h0:0<S.length):∀ (i:Nat),i<=r.length->(∀F,(r.take i).foldlM (grow S) []=some F->Gr S r i F)/\((r.take i).foldlM (grow S) []=none->∀b,Rc S r S.length b->b<r.length)
 |0,_=>⟨λF h=>by cases h;exact .inl ⟨rfl,rfl⟩,λh=>nomatch h⟩
 |i+1,hi=>by
  obtain⟨ih1,ih2⟩:=zn hn h0 i (by omega);have hx:r[i]?=some (r[i]'(by omega)):=getElem?_eq_getElem (by omega);generalize r[i]'(by omega)=x at hx;have gx:r.getD i 0=x:=by rw[List.getD_eq_getElem?_getD,hx];rfl
  have e1:r.take (i+1)=r.take i++[x]:=by rw[List.take_succ,hx];rfl
  rw[e1,List.foldlM_append];cases hF:(r.take i).foldlM (grow S) []with
  |none=>exact⟨λF h=>(nomatch h),λ_=>ih2 hF⟩
  |some F=>
   have e2:(some F>>=λz=>[x].foldlM (grow S) z)=grow S F x:=by
    show(grow S F x).bind (λz=>some z)=_;cases grow S F x<;>rfl
   rw[e2];have g1:=ih1 F hF;unfold grow;rcases g1 with⟨rfl,rfl⟩|⟨a,a1,a2,a3,a4,a5,a6⟩
   ·have c:¬okG S [] x=true:=λz=>absurd (ke z) (by simp);rw[if_neg c,if_pos (show([]:List (List Nat)).length<S.length from h0)];refine⟨λF h=>?_,λh=>nomatch h⟩;cases h;refine .inr ⟨0,Nat.one_pos,Nat.one_pos,?_,zm (le_refl _),rfl,λe h=>Nat.le_of_eq h⟩;show x=r.getD 0 0;exact gx.symm
   ·have hne:x≠lx F:=by
     rw[a3,<-gx];intro e;have h1:i<r.length:=by omega
     have h2:i-1<r.length:=by omega
     rw[List.getD_eq_getElem?_getD,List.getD_eq_getElem?_getD,getElem?_eq_getElem h1,getElem?_eq_getElem h2]at e;exact List.pairwise_iff_getElem.mp hn (i-1) i h2 h1 (by omega) e.symm
    rw[HV a1 hne];by_cases c:gs (S.getD (F.length-1) 0) (lx F) x=true
    ·rw[if_pos c];refine⟨λF' h=>?_,λh=>nomatch h⟩;cases h;refine .inr ⟨a,by rw[List.length_set];exact a1,by omega,?_,?_,by rw[List.length_set];exact a5,by rw[List.length_set];exact a6⟩
     ·unfold lx;rw[y3 a1,nH];exact gx.symm
     ·rw[List.length_set];intro j h1 h2;by_cases q:j+1<i
      ·exact a4 j h1 q
      ·have:j=i-1:=by omega
       subst this;rw[show i-1+1=i by omega,gx,<-a3];exact c
    ·rw[if_neg c];have top:=ES (S:=S) (k:=F.length-1) rfl hx a2 a6 (by rw[<-a3];exact Bool.eq_false_iff.mpr c);rw[show F.length-1+1=F.length by omega]at top;by_cases l:F.length<S.length
     ·rw[if_pos l];refine⟨λF' h=>?_,λh=>nomatch h⟩;cases h;have e3:(F++[[x]]).length-1=F.length:=by rw[length_append];rfl
      refine .inr ⟨i,by rw[length_append];exact Nat.succ_pos _,Nat.lt_succ_self _,?_,zm (le_refl _),?_,by rw[e3];exact top⟩
      ·unfold lx;rw[um];exact gx.symm
      ·rw[e3,show F.length=F.length-1+1 by omega];exact⟨a,a5,by omega,by omega,a4⟩
     ·rw[if_neg l];refine⟨λF' h=>(nomatch h),λ_ b hb=>?_⟩;have:=top b (rc_up' hb (by omega));omega
where rc_up' {S:List Int} {r:List Nat} {j k b:Nat} (h:Rc S r j b) (e:j <= k):Rc S r k b:=uw h e
theorem ux (hn:r.Nodup) (h0:0<S.length):(eN S r).isSome=true↔Rc S r (min (r.length+1) S.length) r.length:=by
 obtain⟨h1,h2⟩:=zn hn h0 r.length (le_refl _);rw[List.take_length]at h1 h2;unfold eN;have up:∀ {j:Nat},j<=r.length->j<=S.length->Rc S r j r.length->Rc S r (min (r.length+1) S.length) r.length:=λa b h=>uw h (by omega);cases e:r.foldlM (grow S) []with
 |none=>
  refine⟨λz=>(nomatch z),λz=>?_⟩;have:=h2 e _ (uw z (Nat.min_le_right _ _));omega
 |some F=>
  refine⟨λ_=>?_,λ_=>rfl⟩;have g:Gd S r.length F:=by
   have:∀ (i:Nat) (F:List (List Nat)),i<=r.length->(r.take i).foldlM (grow S) []=some F->Gd S i F:=λi=>by
    induction i with
    |zero=>intro F _ h;cases h;exact gd0 S
    |succ i ih=>
     intro F hi h;have hx:r[i]?=some (r[i]'(by omega)):=getElem?_eq_getElem (by omega);rw[show r.take (i+1)=r.take i++[r[i]'(by omega)]by rw[List.take_succ,hx];rfl,List.foldlM_append]at h;cases hF:(r.take i).foldlM (grow S) []with
     |none=>rw[hF]at h;cases h
     |some F0=>
      rw[hF]at h;refine(fV (ih F0 (by omega) hF) (x:=r[i]'(by omega)) ?_).1;rw[<-h];show _=(grow S F0 _).bind (λz=>some z);cases grow S F0 _<;>rfl
   exact this r.length F (le_refl _) (by rw[List.take_length];exact e)
  have gl:=g.le;have gk:=g.lk;rcases h1 F e with⟨z,rfl⟩|⟨a,a1,a2,_,a4,a5,_⟩
  ·exact up (j:=0) (Nat.zero_le _) (Nat.zero_le _) z
  ·refine up gk gl ?_;rw[show F.length=F.length-1+1 by omega];exact⟨a,a5,by omega,le_refl _,a4⟩
def enD (ks:List Nat):D:=.dct (ks.map λ(k:Nat)=>(Sum.inl (k:Int):Key)) (ks.map λ_=>.bl true)
def inK (ks:List Nat) (k:Nat):List Nat:=if k∈ks then ks else ks++[k]
theorem uy:b∈inK ks k↔b∈ks\/b=k:=by
 unfold inK;split
 ·exact⟨.inl,λh=>h.elim id λe=>by rw[e];assumption⟩
 ·simp
theorem zo (h:ks.Nodup):(inK ks k).Nodup:=by
 unfold inK;split
 ·exact h
 ·rename_i c;exact List.nodup_append.mpr ⟨h,by simp,λa ha b hb e=>by rw[mem_singleton.mp hb]at e;rw[e]at ha;exact c ha⟩
theorem zq {ks:List Nat} (h:ks.Nodup) (hk:∀k∈ks,k<=n):ks.length<=n+1:=by
 have p:ks.Perm ((List.range (n+1)).filter λk=>decide (k∈ks)):=jG h (List.Pairwise.filter _ (List.pairwise_lt_range.imp λh=>Nat.ne_of_lt h)) λa=>by
  rw[List.mem_filter,List.mem_range,decide_eq_true_eq];exact⟨λh=>⟨by have:=hk a h;omega,h⟩,λh=>h.2⟩
 rw[p.length_eq];exact Nat.le_trans (List.length_filter_le _ _) (by rw[length_range];exact le_refl _)
theorem zr (ks:List Nat) (k:Nat):kU (ks.map λ(k:Nat)=>(Sum.inl (k:Int):Key)) (.inl (k:Int))=decide (k∈ks):=by
 unfold kU;rw[List.any_map];by_cases c:k∈ks
 ·rw[decide_eq_true c,List.any_eq_true];exact⟨k,c,by simp⟩
 ·rw[decide_eq_false c,List.any_eq_false];intro j hj;simp only[Function.comp_apply,decide_eq_true_eq];intro e;have:(j:Int)=(k:Int):=Sum.inl.inj e;exact c (by rw[show k=j by omega];exact hj)
theorem zt (k:Key):∀ks:List Nat,List.zipWith (λj e=>if j=k then D.bl true else e) (ks.map λ(k:Nat)=>(Sum.inl (k:Int):Key)) (ks.map λ_=>D.bl true)=ks.map λ_=>.bl true
 |[]=>rfl
 |a::ks=>by
  rw[List.map_cons,List.map_cons,List.zipWith_cons_cons,zt k ks,ite_self]
theorem zu (hY:fZ Y i=dp (enD ks)) (hk:k (vw Y)=some (iN x)) (hl:ks.length<=100):
  p9 i k g (cB true) Y=some (.nx (Y.set i (dp (enD (inK ks x))))):=by
 unfold p9 xi
 rw[show jN Y i=some (ks.map λ(k:Nat)=>(Sum.inl (k:Int):Key),ks.map λ_=>D.bl true)by unfold jN;rw[hY];rfl,hk]
 show(if lfL (ks.map λ_=>D.bl true)=true/\(ks.map λ(k:Nat)=>(Sum.inl (k:Int):Key)).length+1<big then _ else _)=_
 rw[if_pos ⟨bB λd hd=>by obtain⟨p,_,rfl⟩:=List.mem_map.mp hd;rfl,by rw[length_map];exact lt_big (by omega)⟩]
 unfold np jx enD inK
 rw[zr]
 by_cases c:x∈ks
 ·rw[decide_eq_true c,if_pos rfl,if_pos rfl,if_pos c,zt]
 ·rw[decide_eq_false c,if_neg (by decide),if_neg (by decide),if_neg c,List.map_append,List.map_append];rfl
theorem HW (ks:List Nat) (n:Nat):inD (iN n) (enD ks)=some (.bl (decide (n∈ks))):=by
 have:=zr ks n;unfold kU at this;show some (D.bl ((ks.map λ(k:Nat)=>(Sum.inl (k:Int):Key)).any λj=>decide (j=.inl (n:Int))))=_;rw[this]
theorem ET {α:Type} {out:α->Option Out} {P:α->Prop} (I:Nat->Ev->Prop) (hY:fZ Y i=dp (enD ks)) (h0:I 0 (frzS [i] Y)) (hs:∀ (j x:Nat) (Y:Ev),ks[j]?=some x->I j Y->∃Y',F (Y.set s (sn (iN x)))=some (.nx Y')/\I (j+1) Y') (k:∀Y',I ks.length Y'->∃a,G Y'=out a/\P a):∃a,ab (xK i (eNm s) F) G Y=out a/\P a:=by
 obtain⟨Y',e,h⟩:=lB (step:=mq (eNm s) F) (ks.map λ(k:Nat)=>D.int (k:Int)) I _ h0 (λj d Y hd hi=>by
  rw[getElem?_map]at hd;cases hx:ks[j]? with
  |none=>rw[hx]at hd;cases hd
  |some x=>
   rw[hx]at hd;cases hd;obtain⟨Y',e,h⟩:=hs j x Y hx hi;refine⟨Y',?_,h⟩;exact e)
 rw[length_map]at h;refine gC ?_ (k _ h);unfold xK;rw[show jN Y i=some (ks.map λ(k:Nat)=>(Sum.inl (k:Int):Key),ks.map λ_=>D.bl true)by unfold jN;rw[hY];rfl,Option.bind_some];rw[show(ks.map λ(k:Nat)=>(Sum.inl (k:Int):Key)).map vk=ks.map λ(k:Nat)=>D.int (k:Int)by rw[List.map_map];rfl];exact e
theorem zv (I:Nat->Ev->Prop) (Q:Ev->Prop) (hs:∀m Y,I m Y->(c (vw Y)=some false/\Q Y)\/(c (vw Y)=some true/\0<m/\∃Y',F Y=some (.nx Y')/\I (m-1) Y')):∀ (n m:Nat) (Y:Ev),m<n->I m Y->∃Y',whF c F n Y=some (.nx Y')/\Q Y'
 |0,m,Y,h,_=>absurd h (Nat.not_lt_zero _)
 |n+1,m,Y,h,i=>by
  rcases hs m Y i with⟨h1,q⟩|⟨h1,h2,Y1,h3,i1⟩
  ·refine⟨Y,?_,q⟩;show(c (vw Y)).bind _=_;rw[h1];rfl
  ·obtain⟨Y',e,q⟩:=zv I Q hs n (m-1) Y1 (by omega) i1;refine⟨Y',?_,q⟩;show(c (vw Y)).bind _=_;rw[h1,Option.bind_some,if_pos rfl,h3];exact e
def sLg (f:Fn):Prop:=∀ (s:Int) (x y:Nat),f [.int s,iN x,iN y]=dp (.bl (gs s x y))
theorem Km:sLg (aQ 3 3 fK):=λs x y=>by
 refine ao rfl ?_;unfold fK gs;have st:az 3 [.int s,iN x,iN y]=[sn (.int s),sn (iN x),sn (iN y)]:=rfl;rw[st];by_cases c:s=1
 ·rw[if_pos c];refine aD ((jB ?_).trans (c6 (evX_lf (lR x y) rfl)));simp only[sB,jC,decide_eq_true c];rfl
 ·rw[if_neg c];refine ug ?_ (c6 (evX_lf (lR y x) rfl));simp only[sB,jC,decide_eq_false c];rfl
noncomputable abbrev sC (S:List Int) (r:List Nat) (o2 o3 o4 o5 o6 o7:Option Sl):Ev:=[sn (itD S),sn (rowD r),o2,o3,o4,o5,o6,o7]
noncomputable def EU (f:Fn):Prop:=∀ (S:List Int) (r:List Nat) (n:Nat),0<S.length->r.Perm (List.range n)->n<=24->f [itD S,rowD r]=dp (.bl (eN S r).isSome)
theorem HX (hgo:sLg go):EU (aQ 2 8 (gD go)):=λS r n h0 pm hn=>by
 have hl:r.length=n:=by rw[pm.length_eq,length_range]
 have nd:r.Nodup:=pm.nodup_iff.mpr (List.pairwise_lt_range.imp λh=>Nat.ne_of_lt h);have nl:cq [rowD r]=some (iN n):=by rw[eO,hl]
 have hs:az 8 [itD S,rowD r]=sC S r none none none none none none:=rfl;have key:∃a:Unit,gD go (sC S r none none none none none none)=some (.rt (.deep,.bl (eN S r).isSome))/\True:=by
  unfold gD;refine av (s:=(.deep,enD [0])) (Y':=sC S r none none none none none none) rfl (uh (xs:=S.take (n+1)) (mk:=D.int) (λj Y=>∃ks o3 o5 o6 o7,ks.Nodup/\(∀b,b∈ks↔Rc S r j b)/\Y=sC S r (dp (enD ks)) o3 none o5 o6 o7) ?_ ⟨[0],none,none,none,none,by simp,λb=>by rw[mem_singleton];exact Iff.rfl,rfl⟩ ?_ ?_)
  ·rw[db,sH (xs:=S.map D.int) (k:=n+1) rfl ?_,<-List.map_take]
   ·rfl
   ·show aa aC (lnF (va 1)) (cI 1) [some (itD S),some (rowD r),none,none,none,none,none,none]=_;simp only[sB,nl];rfl
  ·rintro j s Y hs ⟨ks,o3,o5,o6,o7,k1,k2,rfl⟩;have es:S.getD j 0=s:=by
    rw[List.getElem?_take]at hs;split at hs
    ·rw[List.getD_eq_getElem?_getD,hs];rfl
    ·cases hs
   refine BE (Y1:=sC S r (dp (enD ks)) (sn (.int s)) none o5 o6 o7) rfl (av (s:=(.deep,enD [])) (Y':=sC S r (dp (enD ks)) (sn (.int s)) none o5 o6 o7) rfl ?_);refine ET (ks:=ks) (λi Y=>∃M o5 o6 o7,M.Nodup/\(∀b,b∈M↔∃e,e∈ks.take i/\e<=b/\b<=n/\Mn s r e b)/\Y=sC S r (sn (enD ks)) (sn (.int s)) (dp (enD M)) o5 o6 o7) rfl ⟨[],o5,o6,o7,List.nodup_nil,λb=>⟨λh=>(nomatch h),λ⟨e,h,_⟩=>(nomatch h)⟩,rfl⟩ ?_ ?_
   ·rintro i x Y hx ⟨M,o5,o6,o7,m1,m2,rfl⟩;have xn:x<=n:=by
     have:=Cu ((k2 x).mp (mem_of_getElem? hx));omega
    have mn:∀b∈M,b<=n:=λb hb=>by obtain⟨e,_,_,h,_⟩:=(m2 b).mp hb;exact h
    have ml:=zq m1 mn;show∃Y',ab _ _ (sC S r (sn (enD ks)) (sn (.int s)) (dp (enD M)) (sn (iN x)) o6 o7)=some (.nx Y')/\_;refine gC (Y':=sC S r (sn (enD ks)) (sn (.int s)) (dp (enD (inK M x))) (sn (iN x)) o6 o7) (zu (ks:=M) (x:=x) rfl rfl (by omega)) (av (s:=(.deep,iN (x+1))) (Y':=sC S r (sn (enD ks)) (sn (.int s)) (dp (enD (inK M x))) (sn (iN x)) o6 o7) (evX_lf ?_ rfl) (av (s:=(.deep,.bl (decide (x<n)))) (Y':=sC S r (sn (enD ks)) (sn (.int s)) (dp (enD (inK M x))) (sn (iN x)) (dp (iN (x+1))) o7) (evX_lf ?_ rfl) ?_))
    ·simp only[sB,sC];rfl
    ·simp only[sB,sC,nl,lR]
    ·obtain⟨Y',e,q⟩:=zv (c:=trF (va 7)) (F:=ab (p9 4 (va 6) (evV (cB true)) (cB true)) (ab (aj 6 (evV (aa aC (va 6) (cI 1)))) (ab (aj 7 (evV (eU (aa leD (va 6) (lnF (va 1))) (clF go (x3 (va 3) (aa ixD (va 1) (aa cQ (va 6) (cI 2))) (aa ixD (va 1) (aa cQ (va 6) (cI 1)))))))) nxE)))
      (λm Y=>∃at' g M',at'+m=n+1/\x<at'/\(g=true↔at'<=n/\Mn s r x at')/\Mn s r x (at'-1)/\M'.Nodup/\(∀b,b∈M'↔b∈M\/x<=b/\b<at')/\Y=sC S r (sn (enD ks)) (sn (.int s)) (dp (enD M')) (sn (iN x)) (dp (iN at')) (dp (.bl g)))
      (λY=>∃M' o6 o7,M'.Nodup/\(∀b,b∈M'↔b∈M\/x<=b/\b<=n/\Mn s r x b)/\Y=sC S r (sn (enD ks)) (sn (.int s)) (dp (enD M')) (sn (iN x)) o6 o7) (by
      rintro m Y ⟨at',g,M',a1,a2,a3,a4,a5,a6,rfl⟩
      cases g with
      |false=>
       refine .inl ⟨rfl,M',_,_,a5,λb=>?_,rfl⟩;rw[a6 b];refine⟨λh=>h.imp id λh=>⟨h.1,by omega,a4.sub (le_refl _) (by omega)⟩,λh=>h.imp id λh=>⟨h.1,?_⟩⟩;rcases Nat.lt_or_ge b at' with z|z
       ·exact z
       ·exact absurd (a3.mpr ⟨by omega,h.2.2.sub (le_refl _) z⟩) (by decide)
      |true=>
       obtain⟨a7,a8⟩:=a3.mp rfl;have ml':=zq (n:=n) a5 (λb hb=>by
        rcases(a6 b).mp hb with h|h
        ·exact mn b h
        ·omega)
       have a9:Mn s r x (at'+1)↔gs s (r.getD (at'-1) 0) (r.getD at' 0)=true:=by
        constructor
        ·intro h;have:=h (at'-1) (by omega) (by omega);rwa [show at'-1+1=at' by omega]at this
        ·intro h i h1 h2;by_cases q:i+1<at'
         ·exact a8 i h1 q
         ·have:i=at'-1:=by omega
          subst this;rw[show at'-1+1=at' by omega];exact h
       refine .inr ⟨rfl,by omega,?_⟩;refine gC (Y':=sC S r (sn (enD ks)) (sn (.int s)) (dp (enD (inK M' at'))) (sn (iN x)) (dp (iN at')) (dp (.bl true))) (zu (ks:=M') (x:=at') rfl rfl (by omega)) (av (s:=(.deep,iN (at'+1))) (Y':=sC S r (sn (enD ks)) (sn (.int s)) (dp (enD (inK M' at'))) (sn (iN x)) (dp (iN at')) (dp (.bl true))) (evX_lf ?_ rfl) (av (s:=(.deep,.bl (decide (at'+1<=n)&&gs s (r.getD (at'-1) 0) (r.getD at' 0)))) (Y':=sC S r (sn (enD ks)) (sn (.int s)) (dp (enD (inK M' at'))) (sn (iN x)) (dp (iN (at'+1))) (dp (.bl true))) (evX_lf ?_ rfl) (gf ⟨at'+1,_,inK M' at',by omega,by omega,?_,a8,zo a5,λb=>?_,rfl⟩)))
       ·simp only[sB,sC];rfl
       ·have le:leD (iN (at'+1)) (iN n)=some (.bl (decide (at'+1<=n))):=by
         rw[Eg];by_cases q:at'+1<=n
         ·rw[decide_eq_true q,decide_eq_true (by omega)]
         ·rw[decide_eq_false q,decide_eq_false (by omega)]
        simp only[sB,sC,ym,nl,le];by_cases q:at'+1<=n
        ·have i1:ixD (rowD r) (.int (((at'+1:Nat):Int)-2))=some (iN (r.getD (at'-1) 0)):=qx (mk:=λ(k:Nat)=>D.int (k:Int)) (show at'-1<r.length by omega) (by omega);have i2:ixD (rowD r) (.int (((at'+1:Nat):Int)-1))=some (iN (r.getD at' 0)):=qx (mk:=λ(k:Nat)=>D.int (k:Int)) (show at'<r.length by omega) (by omega);simp only[sB,decide_eq_true q,i1,i2,hgo _ _ _,Bool.true_and]
        ·rw[decide_eq_false q];rfl
       ·rw[and_eq_true,decide_eq_true_eq,a9]
       ·rw[uy,a6 b];constructor
        ·rintro((h|h)|h)
         ·exact .inl h
         ·exact .inr ⟨h.1,by omega⟩
         ·exact .inr ⟨by omega,by omega⟩
        ·rintro(h|h)
         ·exact .inl (.inl h)
         ·by_cases q:b=at'
          ·exact .inr q
          ·exact .inl (.inr ⟨h.1,by omega⟩)) 400 (n-x) (sC S r (sn (enD ks)) (sn (.int s)) (dp (enD (inK M x))) (sn (iN x)) (dp (iN (x+1))) (dp (.bl (decide (x<n))))) (by omega) ⟨x+1,_,inK M x,by omega,Nat.lt_succ_self _,by
      rw[decide_eq_true_eq]
      exact⟨λh=>⟨h,zm (by omega)⟩,λh=>h.1⟩,zm (by omega),zo m1,λb=>by
      rw[uy]
      exact⟨λh=>h.imp id λh=>⟨by omega,by omega⟩,λh=>h.imp id λh=>by omega⟩,rfl⟩
     ·refine gC e (gf ?_);obtain⟨M',o6,o7,q1,q2,rfl⟩:=q;refine⟨M',_,o6,o7,q1,λb=>?_,rfl⟩;rw[q2 b,m2 b,List.take_add_one,hx];constructor
      ·rintro(⟨e,h1,h2⟩|h)
       ·exact⟨e,mem_append.mpr (.inl h1),h2⟩
       ·exact⟨x,mem_append.mpr (.inr mem_cons_self),h⟩
      ·rintro⟨e,h1,h2⟩;rcases mem_append.mp h1 with h1|h1
       ·exact .inl ⟨e,h1,h2⟩
       ·cases mem_singleton.mp h1;exact .inr h2
   ·rintro Y ⟨M,o5,o6,o7,m1,m2,rfl⟩;refine av (s:=(.deep,enD M)) (Y':=sC S r (sn (enD ks)) (sn (.int s)) none o5 o6 o7) rfl (gf ⟨M,_,o5,o6,o7,m1,λb=>?_,rfl⟩);rw[m2 b,List.take_length];show _↔∃e,Rc S r j e/\e<=b/\b<=r.length/\Mn (S.getD j 0) r e b;rw[es,hl];exact exists_congr λe=>and_congr_left λ_=>k2 e
  ·rintro Y ⟨ks,o3,o5,o6,o7,k1,k2,rfl⟩;refine⟨(),c6 (evX_lf ?_ rfl),trivial⟩;simp only[sB,sC,nl,HW];refine congrArg some (congrArg D.bl ?_);have e:=ux (S:=S) nd h0;have e2:=k2 n;rw[List.length_take]at e2;rw[hl]at e;cases h:(eN S r).isSome with
   |true=>exact decide_eq_true (e2.mpr (e.mp h))
   |false=>exact decide_eq_false λz=>by rw[e.mpr (e2.mp z)]at h;cases h
 obtain⟨_,e,_⟩:=key;exact ao rfl (by rw[hs];exact e)
end K20
namespace K20
open PySem PySem.Spec PyProof.Rows L2
noncomputable def fL (aw ax:Fn):Ev->Option Out:=(ab (aj 2 evE) (ab (frF (jR (x1 (va 1))) (eNm 3) (ab (xH 2 (aa bj (clF ax (x2 (clF aw (x2 (va 0) (aa aC (cI 6) (va 3)))) (aa aC (cI 700) (va 3)))) (aa aC (va 3) (cI 1))) (va 3)) nxE)) (ab (rtN 2) nxE)))
noncomputable def cx (dQ aw ax:Fn):Ev->Option Out:=(ab (aj 3 (evX (biF gw (x2 (cI 1) (biF re (x2 (va 1) (lnF (va 2)))))) noV (fNo (x2 (cI 1) (biF re (x2 (va 1) (lnF (va 2)))))))) (ab (aj 4 (evX (lsF (aq [9] (jR (x1 (va 1))) (gNm 9) tQ (aa bj (clF ax (x2 (clF aw (x2 (va 0) (aa aC (cI 6) (va 9)))) (aa aC (cI 800) (va 9)))) (va 3)))) (aq [9] (jR (x1 (va 1))) (gNm 9) tQ (aa bj (clF ax (x2 (clF aw (x2 (va 0) (aa aC (cI 6) (va 9)))) (aa aC (cI 800) (va 9)))) (va 3))) (fCo [9] (jR (x1 (va 1))) (gNm 9) tQ (frX (aa bj (clF ax (x2 (clF aw (x2 (va 0) (aa aC (cI 6) (va 9)))) (aa aC (cI 800) (va 9)))) (va 3)) noV noV)))) (ab (aj 5 (evC dQ (x2 (va 0) (va 1)))) (ab (aj 6 evE) (ab (frF (jR (x1 (lnF (va 2)))) (eNm 7) (ab (aj 8 (evX (liG (x1 (lsF (aq [9] (jR (x1 (va 1))) (gNm 9) (au (aa (aN false) (aa ixD (va 4) (va 9)) (va 7))) (aa ixD (va 5) (va 9))))) (s1F (x1 (lsF (aq [9] (jR (x1 (va 1))) (gNm 9) (au (aa (aN false) (aa ixD (va 4) (va 9)) (va 7))) (aa ixD (va 5) (va 9))))))) (s1F (x1 (lsF (aq [9] (jR (x1 (va 1))) (gNm 9) (au (aa (aN false) (aa ixD (va 4) (va 9)) (va 7))) (aa ixD (va 5) (va 9)))))) (fNo (x1 (lsF (aq [9] (jR (x1 (va 1))) (gNm 9) (au (aa (aN false) (aa ixD (va 4) (va 9)) (va 7))) (aa ixD (va 5) (va 9)))))))) (ab (ifS (au (aa (aN false) (aa ixD (va 2) (va 7)) (ngF (cI 1)))) (ab (vj 8) nxE) nxE) (ab (aj 6 (evX (aa aC (va 6) (va 8)) (pQ (va 6) (va 8)) noV)) nxE)))) (ab (rtN 6) nxE))))))
theorem BK (h0:eE Y i=some (.deep,ds)) (hk:fk (shv Y)=some (iN k)) (hkl:k<=ds.length) (hd:R (shv Y)=some d) (lf:lfD d=true) (hl:ds.length+1<big):
  xH i fk R Y=some (.nx (Y.set i (dp (.lst (insL k ds d))))):=by
 unfold xH
 simp only[h0,Option.bind_some,hk,zg hkl,hd,lfO,lf]
 show(if ds.length+1<big then _ else _)=_
 rw[if_pos hl]
 rfl
theorem BL (f:α->β) (k:Nat) (l:List α) (x:α):insL k (l.map f) (f x)=(insL k l x).map f:=by
 unfold insL;rw[List.map_append,List.map_cons,List.map_take,List.map_drop]
theorem zw (k:Nat) (l:List α) (x:α):(insL k l x).Perm (l++[x]):=by
 unfold insL;refine List.perm_middle.trans ?_;rw[List.take_append_drop];exact(List.perm_append_singleton x l).symm
theorem BM (h:eE Y i=some (.deep,ds)):vj i Y=some (.nx (Y.set i (dp (.lst ds.reverse)))):=by
 unfold vj;rw[h];rfl
theorem sJ (r:List Nat):lfL (r.map λ(k:Nat)=>D.int (k:Int))=true:=bB λd hd=>by obtain⟨p,_,rfl⟩:=List.mem_map.mp hd;rfl
noncomputable def zx (f:Fn):Prop:=∀ (ns:List Int) (n:Nat),ns.length<=63->n<=24->∃r:List Nat,r.Perm (List.range n)/\f [scD ns,iN n]=dp (rowD r)
theorem EV {ce st} (hce:nI ce) (hst:qz st):zx (aQ 2 4 (fL ce st)):=λns n hn h24=>by
 have fin:∃r:List Nat,fL ce st [sn (scD ns),sn (iN n),none,none]=some (.rt (.deep,rowD r))/\r.Perm (List.range n):=by
  unfold fL;refine av (s:=(.deep,rowD [])) (evX_lfs (d:=.lst []) (ds:=[]) rfl rfl rfl rfl) (qo (n:=n) (v:=λi=>(i:Int)) (λi Y=>∃ (r:List Nat) (o3:Option Sl),r.Perm (List.range i)/\Y=[sn (scD ns),sn (iN n),dp (rowD r),o3]) (fA (bv (by omega))) ⟨[],none,.refl _,rfl⟩ ?_ ?_)
  ·rintro i Y hi ⟨r,o3,pr,rfl⟩;have hl:r.length=i:=by rw[pr.length_eq,length_range]
   obtain⟨c,e1⟩:=hce ns (6+i) hn (by omega);have e1:ce [scD ns,.int (6+(i:Int))]=dp (.int c):=e1;obtain⟨v,e2⟩:=hst c (700+(i:Int)) (by omega) (by omega);have m:=md v (show(0:Int)<(i:Int)+1 by omega);obtain⟨k,hk⟩:∃k:Nat,(k:Int)=v%((i:Int)+1):=⟨(v%((i:Int)+1)).toNat,by omega⟩;refine qp (BK (ds:=r.map λ(k:Nat)=>D.int (k:Int)) (k:=k) (d:=iN i) rfl ?_ ?_ rfl rfl ?_) ⟨insL k r i,sn (iN i),?_,?_⟩
   ·show aa bj _ _ [some (scD ns),some (iN n),none,some (iN i)]=_;simp only[sB,lO,e1,e2,dL (show(0:Int)<(i:Int)+1 by omega)];exact congrArg (λz:Int=>some (D.int z)) hk.symm
   ·rw[length_map];omega
   ·rw[length_map];exact lt_big (by omega)
   ·rw[List.range_succ];exact(zw k r i).trans (pr.append_right _)
   ·unfold rowD;rw[<-BL (λ(k:Nat)=>D.int (k:Int)) k r i];rfl
  ·rintro Y ⟨r,o3,pr,rfl⟩;exact⟨r,rfl,pr⟩
 obtain⟨r,e,p⟩:=fin;exact⟨r,p,ao rfl e⟩
theorem qA {α:Type} {p q} (h:∀a,p a=true->q a=false):∀l:List α,(l.filter p++l.filter q).Perm (l.filter λa=>p a||q a)
 |[]=>.refl _
 |a::l=>by
  have ih:=qA h l;rw[List.filter_cons,List.filter_cons,List.filter_cons];cases hp:p a with
  |true=>
   rw[h a hp];exact ih.cons a
  |false=>
   cases hq:q a with
   |true=>exact List.perm_middle.trans (ih.cons a)
   |false=>exact ih
theorem iZ {α:Type} (c:α->Nat) (l:List α):∀m:Nat,((List.range m).flatMap λa=>l.filter λk=>decide (c k=a)).Perm (l.filter λk=>decide (c k<m))
 |0=>by
  rw[List.filter_eq_nil_iff.mpr (λk _=>by simp)];exact .refl _
 |m+1=>by
  rw[List.range_succ,List.flatMap_append,List.flatMap_singleton];refine((iZ c l m).append_right _).trans ((qA (λa h=>decide_eq_false (by have:=of_decide_eq_true h;omega)) l).trans (List.Perm.of_eq (List.filter_congr λk _=>?_)));by_cases h:c k<m+1
  ·rw[decide_eq_true h];by_cases g:c k<m
   ·rw[decide_eq_true g];rfl
   ·rw[decide_eq_true (show c k=m by omega),Bool.or_true]
  ·rw[decide_eq_false h,decide_eq_false (show¬c k<m by omega),decide_eq_false (show¬c k=m by omega)];rfl
theorem zy (L:List Nat):(List.range L.length).map (λp=>L.getD p 0)=L:=by
 apply List.ext_getElem
 ·rw[length_map,length_range]
 ·intro i h1 h2;rw[List.getElem_map,List.getElem_range,List.getD_eq_getElem?_getD,getElem?_eq_getElem h2];rfl
theorem BN (hd:l.Nodup) (h:l.length<64):∃q:List Nat,q.Perm l/\q.Pairwise (·<·)/\bT [rowD l]=some (q.map λ(k:Nat)=>D.int (k:Int)):=by
 have hp:(mv (l.map λ(k:Nat)=>(k:Int))).Perm (l.map λ(k:Nat)=>(k:Int)):=List.mergeSort_perm _ _;have hs:(mv (l.map λ(k:Nat)=>(k:Int))).Pairwise (·<=·):=(List.pairwise_mergeSort (le:=λa b:Int=>decide (a<=b)) (λa b c h1 h2=>decide_eq_true (Int.le_trans (of_decide_eq_true h1) (of_decide_eq_true h2))) (λa b=>by rw[Bool.or_eq_true,decide_eq_true_iff,decide_eq_true_iff];exact Int.le_total a b) _).imp λh=>of_decide_eq_true h;obtain⟨q,p,e⟩:=lu (f:=λ(k:Nat)=>(k:Int)) hp;refine⟨q,p,?_,fS ?_⟩
 ·rw[e]at hs;have h1:=List.pairwise_map.mp hs;have h2:q.Pairwise (·≠·):=p.nodup_iff.mpr hd;exact(h1.and h2).imp λ{a b} z=>by have:=z.1;have:=z.2;omega
 ·show(bU (l.map λ(k:Nat)=>D.int (k:Int))).bind _=_;rw[cw,Option.bind_some,if_pos (by rw[length_map];exact h),e,List.map_map];rfl
theorem zA (h1:A Y=some (rowD a)) (h2:B Y=some (rowD b)) (h:a.length+b.length<1000):pQ A B Y=some ((a++b).map λ(k:Nat)=>D.int (k:Int)):=by
 have e:pQ A B Y=bJ (some ((a.map λ(k:Nat)=>D.int (k:Int))++(b.map λ(k:Nat)=>D.int (k:Int)))):=by unfold pQ;rw[h1,h2];rfl
 rw[e,<-List.map_append];exact dM (by rw[length_map,length_append];exact lt_big (by omega))
theorem zB (h1:A Y=some (rowD a)) (h2:B Y=some (rowD b)):aa aC A B Y=none:=by
 rw[bin2_a,h1,h2];rfl
theorem HY {r q:List Nat} (h:i<r.length):(r++q).getD i 0=r.getD i 0:=by
 rw[List.getD_eq_getElem?_getD,List.getD_eq_getElem?_getD,getElem?_append_left h]
theorem HZ {r q:List Nat} (h:r.length<=i):(r++q).getD i 0=q.getD (i-r.length) 0:=by
 rw[List.getD_eq_getElem?_getD,List.getD_eq_getElem?_getD,getElem?_append_right h]
theorem zC:∀ {k b:Nat},Rc S r k b->Rc S (r++q) k b
 |0,b,h=>h
 |k+1,b,⟨e,h1,h2,h3,h4⟩=>⟨e,zC h1,h2,by rw[length_append];omega,λi hi hj=>by
  rw[HY (by omega),HY (by omega)];exact h4 i hi hj⟩
theorem BO (h:Rc S r k r.length) (hq:∀i,i+1<q.length->gs (S.getD k 0) (q.getD i 0) (q.getD (i+1) 0)=true):Rc S (r++q) (k+1) (r++q).length:=
 ⟨r.length,zC h,by rw[length_append];omega,le_refl _,λi hi hj=>by
  rw[length_append]at hj;rw[HZ hi,HZ (by omega),show i+1-r.length=i-r.length+1 by omega];exact hq _ (by omega)⟩
theorem pw_at {q:List Nat} (h:q.Pairwise R) (hi:i+1<q.length):R (q.getD i 0) (q.getD (i+1) 0):=by
 rw[List.getD_eq_getElem?_getD,List.getD_eq_getElem?_getD,getElem?_eq_getElem (show i<q.length by omega),getElem?_eq_getElem hi];exact List.pairwise_iff_getElem.mp h i (i+1) _ _ (Nat.lt_succ_self i)
def Sg (S:List Int):Prop:=∀i,i<S.length->S.getD i 0=1\/S.getD i 0= -1
abbrev cuD (n:Nat) (c:Nat->Nat):D:=.lst ((List.range n).map λk=>iN (c k))
noncomputable abbrev sA (ns:List Int) (n:Nat) (S:List Int) (t:Nat) (c:Nat->Nat) (r:List Nat) (o6 o7 o8:Option Sl):Ev:=[sn (scD ns),sn (iN n),sn (itD S),dp (iN t),dp (cuD n c),dp (rowD r),o6,o7,o8,none]
noncomputable def zD (f:Fn):Prop:=∀ (ns:List Int) (n:Nat) (S:List Int),ns.length<=63->1<=n->n<=24->0<S.length->S.length<256->Sg S->∃r:List Nat,(r.Perm (List.range n)/\(eN S r).isSome=true)/\f [scD ns,iN n,itD S]=dp (rowD r)
theorem EW {li ce st} (hli:zx li) (hce:nI ce) (hst:qz st):zD (aQ 3 10 (cx li ce st)):=λns n S hn h1 h24 hS0 hS hg=>by
 obtain⟨r,pr,er⟩:=hli ns n hn h24;have hrl:r.length=n:=by rw[pr.length_eq,length_range]
 have hnd:r.Nodup:=pr.nodup_iff.mpr (List.pairwise_lt_range.imp λh=>Nat.ne_of_lt h);obtain⟨t,t1,t2,t3,ht⟩:∃t:Nat,1<=t/\t<=S.length/\t<=n/\(t:Int)=(if(if(S.length:Int)<(n:Int)then(S.length:Int)else(n:Int))>1 then(if(S.length:Int)<(n:Int)then(S.length:Int)else(n:Int))else 1):=by
  by_cases a:(S.length:Int)<(n:Int)
  ·rw[if_pos a];by_cases b:(S.length:Int)>1
   ·rw[if_pos b];exact⟨S.length,by omega,by omega,by omega,rfl⟩
   ·rw[if_neg b];exact⟨1,by omega,by omega,by omega,rfl⟩
  ·rw[if_neg a];by_cases b:(n:Int)>1
   ·rw[if_pos b];exact⟨n,by omega,by omega,by omega,rfl⟩
   ·rw[if_neg b];exact⟨1,by omega,by omega,by omega,rfl⟩
 obtain⟨vf,hvf⟩:=Classical.axiomOfChoice (show∀k:Nat,∃v:Int,k<24->∃c:Int,ce [scD ns,.int (6+(k:Int))]=dp (.int c)/\st [.int c,.int (800+(k:Int))]=dp (.int v)fromλk=>by
  by_cases hk:k<24
  ·obtain⟨c,e1⟩:=hce ns (6+k) hn (by omega);obtain⟨v,e2⟩:=hst c (800+(k:Int)) (by omega) (by omega);exact⟨v,λ_=>⟨c,e1,e2⟩⟩
  ·exact⟨0,λh=>absurd h hk⟩)
 obtain⟨c,hc⟩:∃c:Nat->Nat,∀k,c k<t/\((c k:Nat):Int)=vf k%(t:Int):=⟨λk=>(vf k%(t:Int)).toNat,λk=>by
  have:=md (vf k) (show(0:Int)<(t:Int)by omega);show(vf k%(t:Int)).toNat<t/\(((vf k%(t:Int)).toNat:Nat):Int)=_;omega⟩
 have hr1:∀Y:Vv,fY Y 1=some (iN n)->jR (x1 (va 1)) Y=some ((List.range n).map λ(k:Nat)=>D.int (k:Int)):=λY h=>fA (by
  simp only[sB,h];exact bv (by omega))
 have hcut:aq [9] (jR (x1 (va 1))) (gNm 9) tQ (aa bj (clF st (x2 (clF ce (x2 (va 0) (aa aC (cI 6) (va 9)))) (aa aC (cI 800) (va 9)))) (va 3)) (vw [sn (scD ns),sn (iN n),sn (itD S),dp (iN t),none,none,none,none,none,none])=some ((List.range n).map λk=>iN (c k)):=by
  refine aM (xs:=List.range n) (mk:=λ(k:Nat)=>D.int (k:Int)) (out:=λk=>iN (c k)) (hr1 _ rfl) (λk hk=>?_) (by rw[length_range];exact lt_big (by omega));obtain⟨cc,e1,e2⟩:=hvf k (by have:=List.mem_range.mp hk;omega);simp only[sB,lO,e1,e2,dL (show(0:Int)<(t:Int)by omega)];exact congrArg (λz:Int=>some (some (D.int z))) (hc k).2.symm
 have hpl:∀a:Nat,((List.range n).filter λk=>decide (c k=a)).length<=n:=λa=>by
  have:=List.length_filter_le (λk=>decide (c k=a)) (List.range n);rwa [length_range]at this
 have hpart:∀ (a:Nat) (o6 o8:Option Sl),aq [9] (jR (x1 (va 1))) (gNm 9) (au (aa (aN false) (aa ixD (va 4) (va 9)) (va 7))) (aa ixD (va 5) (va 9)) (vw (sA ns n S t c r o6 (sn (iN a)) o8))=some ((((List.range n).filter λk=>decide (c k=a)).map λk=>r.getD k 0).map λ(k:Nat)=>D.int (k:Int)):=λa o6 o8=>by
  rw[List.map_map];refine gd (xs:=List.range n) (mk:=λ(k:Nat)=>D.int (k:Int)) (out:=λk=>iN (r.getD k 0)) (p:=λk=>decide (c k=a)) (hr1 _ rfl) (λk hk=>?_) (by rw[length_range];exact lt_big (by omega));have hk:=List.mem_range.mp hk;have i1:ixD (cuD n c) (iN k)=some (iN (c k)):=bL (mk:=λk=>iN (c k)) (by rw[List.getElem?_range hk]);have i2:ixD (rowD r) (iN k)=some (iN (r.getD k 0)):=qx (mk:=λ(k:Nat)=>D.int (k:Int)) (by omega) rfl;simp only[sB,sA,i1,i2,jC];by_cases h:c k=a
  ·rw[decide_eq_true h];simp[h]
  ·rw[decide_eq_false h];have:¬ ((c k:Nat):Int)=(a:Int):=by omega
   simp[this]
 have fin:∃q:List Nat,cx li ce st [sn (scD ns),sn (iN n),sn (itD S),none,none,none,none,none,none,none]=some (.rt (.deep,rowD q))/\q.Perm (List.range n)/\(eN S q).isSome=true:=by
  unfold cx;refine av (s:=(.deep,iN t)) (Y':=[sn (scD ns),sn (iN n),sn (itD S),none,none,none,none,none,none,none]) (evX_lf ?_ rfl) (av (s:=(.deep,cuD n c)) (Y':=[sn (scD ns),sn (iN n),sn (itD S),dp (iN t),none,none,none,none,none,none]) (evX_lfs (d:=cuD n c) (by rw[lsF_a];exact congrArg (Option.map D.lst) hcut) rfl hcut (bB λd hd=>by obtain⟨p,_,rfl⟩:=List.mem_map.mp hd;rfl)) (av (s:=(.deep,rowD r)) (ev_cl (ds:=[scD ns,iN n]) rfl er rfl) (av (s:=(.deep,rowD [])) (evX_lfs (d:=.lst []) (ds:=[]) rfl rfl rfl rfl)
   (qo (n:=S.length) (v:=λi=>(i:Int)) (λa Y=>∃ (ln:List Nat) (o7 o8:Option Sl),ln.Perm (((List.range a).flatMap λb=>(List.range n).filter λk=>decide (c k=b)).map λk=>r.getD k 0)/\Rc S ln (min a t) ln.length/\Y=sA ns n S t c r (dp (rowD ln)) o7 o8) ?_ ⟨[],none,none,.refl _,by rw[Nat.zero_min];rfl,rfl⟩ ?_ ?_))))
  ·simp only[sB,lO,iw,yn,ou];exact congrArg (λz:Int=>some (D.int z)) ht.symm
  ·refine fA ?_;show(x1 (lnF (va 2)) [some (scD ns),some (iN n),some (itD S),some (iN t),none,none,none,none,none,none]).bind kP=_;simp only[sB,iw];exact bv (by omega)
  ·rintro a Y ha ⟨ln,o7,o8,pl,rc,rfl⟩;have hln:ln.length<=24:=by
    rw[pl.length_eq,length_map,(iZ c (List.range n) a).length_eq];have:=List.length_filter_le (λk=>decide (c k<a)) (List.range n);rw[length_range]at this;omega
   have hpa:=hpl a;have hsub:(((List.range n).filter λk=>decide (c k=a)).map λk=>r.getD k 0).Sublist r:=by
    have:=(List.filter_sublist (p:=λk=>decide (c k=a)) (l:=List.range n)).map λk=>r.getD k 0;rwa [<-hrl,zy,hrl]at this
   obtain⟨q,pq,qs,eq⟩:=BN (l:=((List.range n).filter λk=>decide (c k=a)).map λk=>r.getD k 0) (hnd.sublist hsub) (by rw[length_map];omega);have hq:q.length<=24:=by rw[pq.length_eq,length_map];omega
   have s1:∀o6 o8:Option Sl,s1F (x1 (lsF (aq [9] (jR (x1 (va 1))) (gNm 9) (au (aa (aN false) (aa ixD (va 4) (va 9)) (va 7))) (aa ixD (va 5) (va 9))))) (vw (sA ns n S t c r o6 (sn (iN a)) o8))=some (q.map λ(k:Nat)=>D.int (k:Int)):=λo6 o8=>by
    show(x1 _ _).bind bT=_;rw[vB,consX_a,lsF_a,hpart];exact eq
   have iS:ixD (itD S) (iN a)=some (.int (S.getD a 0)):=qx ha rfl;obtain⟨q2,pq2,qg,e2⟩:∃q2:List Nat,q2.Perm q/\(∀i,i+1<q2.length->gs (S.getD a 0) (q2.getD i 0) (q2.getD (i+1) 0)=true)/\(if decide (S.getD a 0= -1)=true then ab (vj 8) nxE (sA ns n S t c r (dp (rowD ln)) (sn (iN a)) (dp (rowD q)))else nxE (sA ns n S t c r (dp (rowD ln)) (sn (iN a)) (dp (rowD q))))=some (.nx (sA ns n S t c r (dp (rowD ln)) (sn (iN a)) (dp (rowD q2)))):=by
    rcases hg a ha with h|h<;>rw[h]
    ·exact⟨q,.refl _,λi hi=>decide_eq_true (pw_at qs hi),rfl⟩
    ·refine⟨q.reverse,List.reverse_perm _,λi hi=>decide_eq_true (pw_at (R:=λa b=>b<a) (List.pairwise_reverse.mpr qs) hi),?_⟩;refine(ai (BM (ds:=q.map λ(k:Nat)=>D.int (k:Int)) rfl)).trans ?_;unfold rowD;rw[List.map_reverse];rfl
   have hq2:q2.length<=24:=by rw[pq2.length_eq];exact hq
   refine av (s:=(.deep,rowD q)) (Y':=sA ns n S t c r (dp (rowD ln)) (sn (iN a)) o8) (evX_lfs (d:=rowD q) (ds:=q.map λ(k:Nat)=>D.int (k:Int)) (jF (s1 _ _)) rfl (s1 _ _) (sJ q)) (Bx (b:=decide (S.getD a 0= -1)) ?_ ⟨_,e2,av (evX_cat (ds:=(ln++q2).map λ(k:Nat)=>D.int (k:Int)) (zB (a:=ln) (b:=q2) rfl rfl) (zA (a:=ln) (b:=q2) rfl rfl (by omega)) (sJ _)) (gf ⟨ln++q2,_,_,?_,?_,rfl⟩)⟩)
   ·simp only[sB,sA,yk,r9,iS,jC];rfl
   ·rw[List.range_succ,List.flatMap_append,List.map_append,List.flatMap_singleton];exact pl.append (pq2.trans pq)
   ·rcases Nat.lt_or_ge a t with z|z
    ·rw[Nat.min_eq_left (show a<=t by omega)]at rc;rw[Nat.min_eq_left (show a+1<=t by omega)];exact BO rc qg
    ·have e0:q2=[]:=by
      have:((List.range n).filter λk=>decide (c k=a))=[]:=List.filter_eq_nil_iff.mpr λk _=>by
       have:=(hc k).1;rw[decide_eq_true_iff];omega
      rw[this]at pq;exact(pq2.trans pq).eq_nil
     rw[e0,List.append_nil,Nat.min_eq_right (show t<=a+1 by omega)];rwa [Nat.min_eq_right z]at rc
  ·rintro Y ⟨ln,o7,o8,pl,rc,rfl⟩;have pn:ln.Perm (List.range n):=by
    refine pl.trans (((iZ c (List.range n) S.length).map _).trans ?_);rw[List.filter_eq_self.mpr (λk _=>decide_eq_true (by have:=(hc k).1;omega)),<-hrl,zy,hrl];exact pr
   have ll:ln.length=n:=by rw[pn.length_eq,length_range]
   refine⟨ln,rfl,pn,(ux (pn.nodup_iff.mpr (List.pairwise_lt_range.imp λh=>Nat.ne_of_lt h)) hS0).mpr (uw (j:=t) ?_ (by omega))⟩;rwa [Nat.min_eq_right t2]at rc
 obtain⟨q,e,p⟩:=fin;exact⟨q,p,ao rfl e⟩
end K20
namespace K20
open PySem PySem.Spec PyProof.Rows L2
noncomputable def oM:Ev->Option Out:=(rtF (evV (eU (biF eZ (x2 (va 0) (cT "int"))) (wz (biF eZ (x2 (va 0) (cT "bool")))))))
noncomputable def cU (eR bi:Fn):Ev->Option Out:=(ab (ifS (orQ (bP (trF (biF eZ (x2 (va 1) (cT "list"))))) (au (aa (aN true) (liG (x1 (va 1)) (s1F (x1 (va 1)))) (liG (x1 (biF noD (x1 (va 2)))) (orO (lrF (x1 (va 2))) (l1F (x1 (biF noD (x1 (va 2)))))))))) (rtF (evV (cB false))) nxE) (rtF (evV (eU (aa (aN false) (lnF (lsF (aq [3] (jX noV (va 1)) (gNm 3) (bP (trF (clF bi (x1 (va 3))))) (va 3)))) (cI 0)) (clF eR (x2 (va 0) (va 1)))))))
noncomputable def cL (cb bi bx:Fn):Ev->Option Out:=(ab (aj 3 (evC bx (x2 (va 0) (va 1)))) (rtF (evV (eU (clF bi (x1 (va 3))) (eU (bI leD ltI (cI 0) (va 3) (va 2)) (aa (aN false) (clF cb (x3 (va 0) (lnF (va 1)) (va 3))) (va 1)))))))
noncomputable def zE (cO bG dR cb bm bx aw:Fn) (oQ:List D->Option (List (Str×D))) (df cJ:Fn):Ev->Option Out:=(ab (aj 1 (evC cJ (x1 (va 0)))) (ab (aj 2 (evC df (x1 (va 1)))) (ab (aj 3 (evX (mkF "Mill" oQ (x1 (va 1))) noV (fNo (x1 (va 1))))) (ab (aj 4 (evV (aa bj (aa jL (clF aw (x2 (va 0) (cI 5))) (cI 8)) (cI 13)))) (ab (aj 5 (evC cO (x2 (va 3) (va 4)))) (ab (aj 6 (evC aw (x2 (va 0) (cI 40)))) (ab (aj 7 (evV (aa ixD (lsF (dpF (x4 (cI 0) (aa cQ (va 5) (cI 1)) (aa bj (va 6) (va 5)) (aa bj (va 6) (va 5))))) (aa bj (va 6) (cI 4))))) (ab (aj 8 (evC cb (x3 (va 3) (va 4) (va 7)))) (ab (ifS (orQ (bP (trF (clF bm (x3 (va 2) (va 8) (va 4))))) (au (aa (aN true) (clF bx (x2 (va 3) (va 8))) (va 7)))) (rtF (evV (cB false))) nxE) (ab (aj 9 (evX (liF (x1 (va 8))) (l1F (x1 (va 8))) (fNo (x1 (va 8))))) (ab (ifS (au (aa ltD (aa aC (va 7) (cI 1)) (va 5))) (ab (aj 10 (evC cb (x3 (va 3) (va 4) (aa aC (va 7) (cI 1))))) (ab (ifS (orQ (bP (trF (clF bm (x3 (va 2) (va 10) (va 4))))) (bP (au (aa ltD (va 9) (va 10))))) (rtF (evV (cB false))) nxE) nxE)) nxE) (ab (iM 8 (evV (cI 99))) (ab (ifS (au (aa (aN true) (clF cb (x3 (va 3) (va 4) (va 7))) (va 9))) (rtF (evV (cB false))) nxE) (rtF (evC dR (x3 (va 3) (clF bG (x3 (va 0) (biF gw (x2 (cI 1) (va 4))) (va 2))) (clF cO (x2 (va 3) (biF gw (x2 (cI 1) (va 4)))))))))))))))))))))
def lxl (σ τ:List Nat):Bool:=HT.lexLt (σ.map λ(k:Nat)=>(k:Int)) (τ.map λ(k:Nat)=>(k:Int))
theorem Cv:∀ (l s b:Nat) (L:List Nat),L.length=l->L.Pairwise (·<·)->(gl U l s b L).Pairwise λσ τ=>lxl σ τ=true
 |0,_,_,_,_,_=>List.pairwise_singleton _ _
 |l+1,s,b,L,hl,hs=>by
  unfold gl;refine List.pairwise_flatMap.mpr ⟨λp hp=>?_,List.pairwise_lt_range.imp_of_mem λ{p q} hp hq hpq σ hσ τ hτ=>?_⟩
  ·have hp:=List.mem_range.mp hp;split
   ·refine List.pairwise_map.mpr ((Cv l _ _ _ (eH (by omega) hl) (hs.sublist (List.eraseIdx_sublist _ _))).imp λ{σ τ} h=>?_);show HT.lexLt (_::_) (_::_)=true;rw[HT.lexLt_cons,if_pos rfl];exact h
   ·exact .nil
  ·have hp:=List.mem_range.mp hp;have hq:=List.mem_range.mp hq;split at hσ
   ·split at hτ
    ·obtain⟨σ',_,rfl⟩:=List.mem_map.mp hσ;obtain⟨τ',_,rfl⟩:=List.mem_map.mp hτ;have:L.getD p 0<L.getD q 0:=by
      rw[List.getD_eq_getElem?_getD,List.getD_eq_getElem?_getD,getElem?_eq_getElem (show p<L.length by omega),getElem?_eq_getElem (show q<L.length by omega)];exact List.pairwise_iff_getElem.mp hs p q _ _ hpq
     show HT.lexLt (((L.getD p 0:Nat):Int)::_) (((L.getD q 0:Nat):Int)::_)=true;rw[HT.lexLt_cons,if_neg (by omega)];exact decide_eq_true (by omega)
    ·cases hτ
   ·cases hσ
theorem EX (h1:(all S m)[v]?=some σ) (h2:(all S m)[v+1]?=some τ):lxl σ τ=true:=by
 have:=Cv (U:=useS S m) m 0 (if(useS S m).getD 0 0=1 then 0 else m) (List.range m) length_range List.pairwise_lt_range;obtain⟨i1,e1⟩:=List.getElem?_eq_some_iff.mp h1;obtain⟨i2,e2⟩:=List.getElem?_eq_some_iff.mp h2;rw[<-e1,<-e2];exact List.pairwise_iff_getElem.mp this v (v+1) i1 i2 (Nat.lt_succ_self v)
theorem BP (σ τ:List Nat):ltD (rowD σ) (rowD τ)=some (.bl (lxl σ τ)):=by
 show((bU (σ.map λ(k:Nat)=>D.int (k:Int))).bind λxs=>(bU (τ.map λ(k:Nat)=>D.int (k:Int))).bind λys=>some (D.bl (HT.lexLt xs ys)))=_;rw[cw,cw];rfl
theorem zF {m v:Nat} (h0:0<S.length) (h:(all S m)[v]?=some σ):σ.Perm (List.range m)/\(eN S σ).isSome=true:=by
 have hm:=mem_of_getElem? h;rw[<-uv h0]at hm;obtain⟨f1,f2⟩:=List.mem_filter.mp hm;exact⟨(sw m _ length_range σ).mp f1,f2⟩
theorem H0 {m v w:Nat} (h0:0<S.length) (h1:(all S m)[v]?=some σ) (h2:(all S m)[w]?=some σ):w=v:=(List.getElem?_inj (List.getElem?_eq_some_iff.mp h2).1 (vH h0 m)).mp (h2.trans h1.symm)
def sWh (f:Fn):Prop:=∀i:Int,f [.int i]=dp (.bl true)
theorem Kn:sWh (aQ 1 1 oM):=λi=>ao rfl (aD (bt (evX_lf (d:=.bl true) rfl rfl)))
noncomputable def sRg (f:Fn):Prop:=∀ (S:List Int) (r:List Nat) (n:Nat),0<S.length->r.Perm (List.range n)->n<=24->f [itD S,rowD r,iN n]=dp (.bl (eN S r).isSome)
theorem Ko (hc:EU can) (hw:sWh wh):sRg (aQ 3 4 (cU can wh)):=λS r n h0 pm hn=>by
 have hw:∀i:Int,wh [.int i]=dp (.bl true):=hw;refine ao rfl ?_;show cU can wh [sn (itD S),sn (rowD r),sn (iN n),none]=_;unfold cU;have e1:=hc S r n h0 pm hn;have hl:r.length=n:=by rw[pm.length_eq,length_range]
 have s1:s1F (x1 (va 1)) (vw [sn (itD S),sn (rowD r),sn (iN n),none])=some ((List.range n).map λ(k:Nat)=>D.int (k:Int)):=by
  show(x1 (va 1) _).bind bT=_;simp only[sB,fS (lN pm hn)]
 have l1:orO (lrF (x1 (va 2))) (l1F (x1 (biF noD (x1 (va 2))))) (vw [sn (itD S),sn (rowD r),sn (iN n),none])=some ((List.range n).map λ(k:Nat)=>D.int (k:Int)):=by
  unfold orO;rw[show lrF (x1 (va 2)) (vw [sn (itD S),sn (rowD r),sn (iN n),none])=some ((List.range n).map λ(k:Nat)=>D.int (k:Int))from sm hn]
 have cf:aq [3] (jX noV (va 1)) (gNm 3) (bP (trF (clF wh (x1 (va 3))))) (va 3) (vw [sn (itD S),sn (rowD r),sn (iN n),none])=some []:=by
  have:=gd (ks:=[3]) (g:=gNm 3) (ft:=bP (trF (clF wh (x1 (va 3))))) (fe:=va 3) (J:=jX noV (va 1)) (Y:=vw [sn (itD S),sn (rowD r),sn (iN n),none]) (xs:=r) (mk:=λ(k:Nat)=>D.int (k:Int)) (out:=λ(k:Nat)=>D.int (k:Int)) (p:=λ_=>false) rfl (λk _=>by
   simp only[sB,hw];rfl) (by exact lt_big (by omega))
  rw[List.filter_eq_nil_iff.mpr (λ_ _=>Bool.false_ne_true)]at this;exact this
 have ci:orQ (bP (trF (biF eZ (x2 (va 1) (cT "list"))))) (au (aa (aN true) (liG (x1 (va 1)) (s1F (x1 (va 1)))) (liG (x1 (biF noD (x1 (va 2)))) (orO (lrF (x1 (va 2))) (l1F (x1 (biF noD (x1 (va 2))))))))) (vw [sn (itD S),sn (rowD r),sn (iN n),none])=some false:=by
  have e3:au (aa (aN true) (liG (x1 (va 1)) (s1F (x1 (va 1)))) (liG (x1 (biF noD (x1 (va 2)))) (orO (lrF (x1 (va 2))) (l1F (x1 (biF noD (x1 (va 2)))))))) (vw [sn (itD S),sn (rowD r),sn (iN n),none])=some false:=by
   rw[testB_a,bin2_a,jF s1,jF l1];show((aN true (rowD (List.range n)) (rowD (List.range n))).bind _)=_;rw[oB];rfl
  rw[qh,e3];rfl
 refine(ai ((dJ ci).trans rfl)).trans (aD (bt (evX_lf (d:=.bl (eN S r).isSome) ?_ rfl)));show eU _ _ _=_;have l0:lnF (lsF (aq [3] (jX noV (va 1)) (gNm 3) (bP (trF (clF wh (x1 (va 3))))) (va 3))) (vw [sn (itD S),sn (rowD r),sn (iN n),none])=some (.int 0):=by
  unfold lnF;rw[biF_a,vB,consX_a,lsF_a,cf];rfl
 unfold eU;rw[bin2_a,l0];show((clF can _ _))=_;simp only[sB,lO,e1]
theorem EY (hra:sRa fa ra) (hno:sNo fa no) (hw:sWh wh) (ps:List (List Pk)) (S:List Int) (r:List Nat) (n:Nat) (hf:fa [af ps]=dp (itD S)) (h0:0<S.length) (hS:S.length<256) (pm:r.Perm (List.range n)) (hn:n<=24) (hr:(eN S r).isSome=true):
  aQ 3 4 (cL ra wh no) [af ps,rowD r,iN (bq S n)]=dp (.bl true):=by
 have hw:∀i:Int,wh [.int i]=dp (.bl true):=hw
 refine ao rfl ?_
 show cL ra wh no [sn (af ps),sn (rowD r),sn (iN (bq S n)),none]=_
 unfold cL
 have hl:r.length=n:=by rw[pm.length_eq,length_range]
 obtain⟨v,hv,e1⟩:=hno ps S r n hf h0 hS pm hn hr
 have hvl:v<bq S n:=by rw[<-ut];exact(List.getElem?_eq_some_iff.mp hv).1
 obtain⟨σ,hσ,e2⟩:=hra ps S n v hf h0 hS hn hvl
 have:σ=r:=Option.some.inj (hσ.symm.trans hv)
 subst this
 have nl:cq [rowD σ]=some (iN n):=by rw[eO,hl]
 refine(ai (aW (ev_cf (ds:=[af ps,rowD σ]) rfl e1 rfl))).trans (aD (bt (evX_lf (d:=.bl true) ?_ rfl)))
 show eU _ _ [some (af ps),some (rowD σ),some (iN (bq S n)),some (iN v)]=_
 have c1:bI leD ltI (cI 0) (va 3) (va 2) [some (af ps),some (rowD σ),some (iN (bq S n)),some (iN v)]=some (.bl true):=by
  show(if decide ((0:Int)<=(v:Int))=true then some (D.bl (decide ((v:Int)<((bq S n:Nat):Int))))else some (.bl false))=_;rw[decide_eq_true (show(0:Int)<=(v:Int)by omega),if_pos rfl,decide_eq_true (by omega)]
 have c2:aa (aN false) (clF ra (x3 (va 0) (lnF (va 1)) (va 3))) (va 1) [some (af ps),some (rowD σ),some (iN (bq S n)),some (iN v)]=some (.bl true):=by
  simp only[sB,vC,lO,nl,e2,oB];rfl
 unfold eU
 rw[c1,c2]
 simp only[sB,hw]
theorem Cw:∀ (rs:List (List Pk)) (n:Nat) (w:List Nat) (c:Sd),(c.2=1\/c.2= -1)->((pl n rs w c).2=1\/(pl n rs w c).2= -1)
 |[],_,_,_,h=>h
 |_::_,_,[],_,h=>h
 |p::rs,n,k::w,c,h=>by
  refine Cw rs (n*p.length) w (bH n k (pkg p k) c) ?_;show(if(pkg p k).1 then c.2 else -c.2)=1\/(if(pkg p k).1 then c.2 else -c.2)= -1;cases(pkg p k).1
  ·simp;omega
  ·simpa using h
theorem EZ (h:q∈tol ps):q.2=1\/q.2= -1:=by
 unfold tol at h;obtain⟨m,_,rfl⟩:=List.mem_map.mp h;exact Cw ps 1 _ _ (.inl rfl)
theorem zG (hmi:ue mi) (hv:Valid ps):mi [aK ps]=some [(("passes":Str),aK ps)]:=by
 have i1:(ps.map λp=>(false,p)).map (·.2)=ps:=by rw[List.map_map];exact List.map_id ps
 have i2:(ps.map λp=>(false,p)).map paD=ps.map tpD:=by rw[List.map_map];rfl
 have q:=hmi false (ps.map λp=>(false,p)) (by rw[i1];exact hv);rw[i1,i2]at q;exact q
theorem vI (hv:Valid ps) {T:List Sd} (h1:T.Perm (tol ps)) (h2:T.Pairwise λa b=>HT.lexLt [b.1,b.2] [a.1,a.2]=false):(T.map (·.2)).length=prod ps/\∀i,i<prod ps->((i:Int),(T.map (·.2)).getD i 0)∈tol ps:=by
 have hc:=sv (kb hv) h1 h2;have hl:T.length=prod ps:=by
  have:=congrArg List.length hc;rwa [length_map,length_map,length_range]at this
 refine⟨by rw[length_map,hl],λi hi=>?_⟩;have hi':i<T.length:=by omega
 have e1:(T.map (·.1))[i]?=some (T[i]).1:=by rw[getElem?_map,getElem?_eq_getElem hi'];rfl
 rw[hc,getElem?_map,List.getElem?_range hi]at e1;have e1:(i:Int)=(T[i]).1:=Option.some.inj e1;have e2:(T.map (·.2)).getD i 0=(T[i]).2:=by rw[List.getD_eq_getElem?_getD,getElem?_map,getElem?_eq_getElem hi'];rfl
 rw[e1,e2];exact h1.mem_iff.mp (List.getElem_mem hi')
theorem E8 {R Sp} (h:R (vw Y)=some (af ps)) (hs:Sp (vw Y)=none) (h2:R (shv Y)=some (af ps)):evX R noV Sp Y=some ((.sh,af ps),Y):=yj h rfl rfl hs rfl h2
theorem H9:fNo xs Y=none:=by
 unfold fNo;cases xs Y<;>rfl
theorem gE {xs:Vv->Option (List D)} (h:xs (vw Y)=some ds) (e:f ds=dp d):evC f xs Y=some ((.deep,d),Y):=by
 cases q:lfD d with
 |true=>exact ev_cf h e q
 |false=>exact ev_cl h e q
noncomputable abbrev sL (ns S:List Int) (ps:List (List Pk)) (m n:Nat) (c:Int) (v:Nat) (o8 o9 o10:Option Sl):Ev:=[sn (scD ns),dp (aK ps),dp (itD S),sn (af ps),dp (iN m),dp (iN n),dp (.int c),dp (iN v),o8,o9,o10]
theorem Ia (hmr:sMr fa mr) (hnl:zD nl) (hbk:bk=aQ 3 4 (cL ra wh no)) (hra:sRa fa ra) (hrg:sRg rg) (hno:sNo fa no) (hce:nI ce) (hmi:ue mi) (hlf:sLF lf) (hpa:oJ pa) (hfa:sE fa) (hw:sWh wh) (ns:List Int) (hn:ns.length<=63):
  gz (aQ 1 11 (zE mr nl bk ra rg no ce mi lf pa) [scD ns])=some (.bl true):=by
 obtain⟨ps,hv,hwd,h200,e2⟩:=hpa ns hn
 have h256:prod ps<256:=by omega
 obtain⟨T,t1,t2,e5⟩:=hfa ps hv hwd h256
 obtain⟨hSl,hSt⟩:=vI hv t1 t2
 generalize T.map (·.2)=S at e5 hSl hSt
 have hp1:1<=prod ps:=by have:=lQ hv 0 ps.length;rwa [List.drop_zero,List.take_length]at this
 have h0:0<S.length:=by omega
 have hS:S.length<256:=by omega
 have hg:Sg S:=λi hi=>EZ (hSt i (by omega))
 have e6:=hlf ps S hv h256 hSl hSt
 have e7:=zG hmi hv
 obtain⟨c5,q5⟩:=hce ns 5 hn (by decide)
 have q5:ce [scD ns,.int 5]=dp (.int c5):=q5
 have m13:=md (c5/8) (show(0:Int)<13 by decide)
 obtain⟨m,hm⟩:∃m:Nat,(m:Int)=c5/8%13:=⟨(c5/8%13).toNat,by omega⟩
 have e9:=hmr ps S m e5 h0 hS (by omega)
 have r0:=zc (m:=m) h0
 obtain⟨c,q40⟩:=hce ns 40 hn (by decide)
 have q40:ce [scD ns,.int 40]=dp (.int c):=q40
 have mc:=md c (show(0:Int)<((bq S m:Nat):Int)by omega)
 have m4:=md c (show(0:Int)<4 by decide)
 obtain⟨d,⟨v,hvr,rfl⟩,ev⟩:=Br (ds:=[.int 0,.int (((bq S m:Nat):Int)-1),.int (c%((bq S m:Nat):Int)),.int (c%((bq S m:Nat):Int))]) (i:=c%4) (λd=>∃v:Nat,v<bq S m/\d=iN v) m4.1 m4.2 (by
  intro d hd;simp only[mem_cons,List.not_mem_nil,or_false]at hd;rcases hd with rfl|rfl|rfl|rfl
  ·exact⟨0,r0,rfl⟩
  ·exact⟨bq S m-1,by omega,congrArg D.int (by omega)⟩
  ·exact⟨(c%((bq S m:Nat):Int)).toNat,by omega,congrArg D.int (by omega)⟩
  ·exact⟨(c%((bq S m:Nat):Int)).toNat,by omega,congrArg D.int (by omega)⟩)
 obtain⟨σ,hσ,q1⟩:=hra ps S m v e5 h0 hS (by omega) hvr
 obtain⟨pσ,gσ⟩:=zF h0 hσ
 have q2:=hrg S σ m h0 pσ (by omega)
 rw[gσ]at q2
 obtain⟨w,hw1,q3⟩:=hno ps S σ m e5 h0 hS pσ (by omega) gσ
 have:=H0 h0 hσ hw1
 subst this
 obtain⟨n,hn1,hn2,hmx⟩:∃n:Nat,1<=n/\n<=24/\(n:Int)=if(m:Int)>1 then(m:Int)else 1:=by
  by_cases z:(m:Int)>1
  ·rw[if_pos z];exact⟨m,by omega,by omega,rfl⟩
  ·rw[if_neg z];exact⟨1,by decide,by decide,rfl⟩
 obtain⟨r,⟨pr,gr⟩,q6⟩:=hnl ns n S hn hn1 hn2 h0 hS hg
 have q7:=hmr ps S n e5 h0 hS (by omega)
 have q8:=EY hra hno hw ps S r n e5 h0 hS pr hn2 gr
 rw[<-hbk]at q8
 have key:∃s,zE mr nl bk ra rg no ce mi lf pa [sn (scD ns),none,none,none,none,none,none,none,none,none,none]=some (.rt s)/\s.2=.bl true:=by
  unfold zE;refine av (s:=(.deep,aK ps)) (gE (ds:=[scD ns]) rfl e2) (av (s:=(.deep,itD S)) (gE (ds:=[aK ps]) rfl e6) (av (s:=(.sh,af ps)) (Y':=[sn (scD ns),dp (aK ps),dp (itD S),none,none,none,none,none,none,none,none]) (E8 ?_ H9 ?_) (av (s:=(.deep,iN m)) (evX_lf ?_ rfl) (av (s:=(.deep,iN (bq S m))) (gE (ds:=[af ps,iN m]) rfl e9) (av (s:=(.deep,.int c)) (gE (ds:=[scD ns,.int 40]) rfl q40) (av (s:=(.deep,iN w)) (evX_lf ?_ rfl) (av (s:=(.deep,rowD σ)) (gE (ds:=[af ps,iN m,iN w]) rfl q1) (ql ?_ (av (s:=(.deep,rowD σ)) (Y':=sL ns S ps m (bq S m) c w (dp (rowD σ)) none none) (evX_lfs (d:=rowD σ) (ds:=σ.map λ(k:Nat)=>D.int (k:Int)) ?_ rfl ?_ (sJ σ)) ?_)))))))))
  ·simp only[sB,Ck,e7];rfl
  ·simp only[sB,iW,ii,fB,ig,show lfD (aK ps)=true from yz ps,ox,Ck,e7];rfl
  ·simp only[sB,lO,q5,j9 (show(0:Int)<8 by decide) (show(8:Int)<1073741824 by decide),dL (show(0:Int)<13 by decide),<-hm]
  ·simp only[sB,x4,vC,lO,Ez,dL (show(0:Int)<((bq S m:Nat):Int)by omega),dL (show(0:Int)<4 by decide),Bl,ev]
  ·show orQ _ _ (vw (sL ns S ps m (bq S m) c w (dp (rowD σ)) none none))=_;simp only[sB,sL,vC,lO,qh,q2,q3,jC];rfl
  ·exact liF_a.trans (congrArg (Option.map D.lst) rfl)
  ·rfl
  ·have two:∃Y',ifS (au (aa ltD (aa aC (va 7) (cI 1)) (va 5))) (ab (aj 10 (evC ra (x3 (va 3) (va 4) (aa aC (va 7) (cI 1))))) (ab (ifS (orQ (bP (trF (clF rg (x3 (va 2) (va 10) (va 4))))) (bP (au (aa ltD (va 9) (va 10))))) (rtF (evV (cB false))) nxE) nxE)) nxE (sL ns S ps m (bq S m) c w (dp (rowD σ)) (dp (rowD σ)) none)=some (.nx Y')/\∃o10,Y'=sL ns S ps m (bq S m) c w (dp (rowD σ)) (dp (rowD σ)) o10:=by
    by_cases z:w+1<bq S m
    ·obtain⟨τ,hτ,p1⟩:=hra ps S m (w+1) e5 h0 hS (by omega) z;obtain⟨pτ,gτ⟩:=zF h0 hτ;have p2:=hrg S τ m h0 pτ (by omega);rw[gτ]at p2;have hT:au (aa ltD (aa aC (va 7) (cI 1)) (va 5)) (vw (sL ns S ps m (bq S m) c w (dp (rowD σ)) (dp (rowD σ)) none))=some true:=by
      simp only[sB,sL];show some (decide (((w:Int)+1)<((bq S m:Nat):Int)))=_;rw[decide_eq_true (by omega)]
     obtain⟨Y',e,q⟩:∃Y',ab (aj 10 (evC ra (x3 (va 3) (va 4) (aa aC (va 7) (cI 1))))) (ab (ifS (orQ (bP (trF (clF rg (x3 (va 2) (va 10) (va 4))))) (bP (au (aa ltD (va 9) (va 10))))) (rtF (evV (cB false))) nxE) nxE) (sL ns S ps m (bq S m) c w (dp (rowD σ)) (dp (rowD σ)) none)=some (.nx Y')/\∃o10,Y'=sL ns S ps m (bq S m) c w (dp (rowD σ)) (dp (rowD σ)) o10:=by
      refine av (s:=(.deep,rowD τ)) (Y':=sL ns S ps m (bq S m) c w (dp (rowD σ)) (dp (rowD σ)) none) (gE (ds:=[af ps,iN m,iN (w+1)]) rfl p1) (ql ?_ (gf ⟨_,rfl⟩));show orQ _ _ (vw (sL ns S ps m (bq S m) c w (dp (rowD σ)) (dp (rowD σ)) (dp (rowD τ))))=_;simp only[sB,sL,vC,lO,qh,p2,BP,EX hσ hτ];rfl
     exact⟨Y',(jB hT).trans e,q⟩
    ·have hT:au (aa ltD (aa aC (va 7) (cI 1)) (va 5)) (vw (sL ns S ps m (bq S m) c w (dp (rowD σ)) (dp (rowD σ)) none))=some false:=by
      simp only[sB,sL];show some (decide (((w:Int)+1)<((bq S m:Nat):Int)))=_;rw[decide_eq_false (by omega)]
     exact⟨_,(dJ hT).trans rfl,none,rfl⟩
   obtain⟨Y',e,o10,rfl⟩:=two;refine gC e (gC (Y':=sL ns S ps m (bq S m) c w (dp (.lst ((σ.map λ(k:Nat)=>D.int (k:Int))++[.int 99]))) (dp (rowD σ)) o10) (di (ds:=σ.map λ(k:Nat)=>D.int (k:Int)) (ds0:=σ.map λ(k:Nat)=>D.int (k:Int)) (c0:=.deep) (d:=.int 99) rfl (evX_lf rfl rfl) rfl ?_) (ql ?_ ?_))
   ·rw[length_map,pσ.length_eq,length_range];exact lt_big (by omega)
   ·simp only[sB,sL,vC,lO,q1,oB];rfl
   ·refine⟨(.deep,.bl true),c6 (gE (ds:=[af ps,rowD r,iN (bq S n)]) ?_ q8),rfl⟩;have mx:gw [.int 1,iN m]=some (iN n):=by rw[ou];exact congrArg (λz:Int=>some (D.int z)) hmx.symm
    simp only[sB,sL,vC,lO,mx,q6,q7]
 obtain⟨s,e,z⟩:=key
 have:=ao (n:=1) (m:=11) (ds:=[scD ns]) rfl e
 rw[this]
 show some s.2=_
 rw[z]
end K20
namespace K20
open PySem PySem.Spec PyProof.Rows L2
noncomputable def scK (N P:List Str) (sc:Scope):Bool:=decide (sc.kind=.function)&&(!sc.isCoroutine&&(!sc.isGenerator&&(decide N.Nodup&&(decide (N.take P.length=P)&&((P.all λx=>decide (sc.names.lookup x=some .local)||decide (sc.names.lookup x=some .cell))&&sc.names.all λy=>!decide (y.2=.free))))))
theorem scB (h:scK N P sc=true:=by kernel_rfl):FnScope N P sc:=by
 simp only[scK,and_eq_true,decide_eq_true_eq,Bool.not_eq_true',List.all_eq_true,Bool.or_eq_true,decide_eq_false_iff_not]at h;exact⟨h.1,h.2.1,h.2.2.1,h.2.2.2.1,h.2.2.2.2.1,h.2.2.2.2.2.1,h.2.2.2.2.2.2⟩
noncomputable def top (i:Nat):Stmt:=PySem.Challenge.pw_pocketmill_k39_numbers_there_and_back.main.body.getD i (.Pass ⟨0,0,0,0⟩)
noncomputable def G0:Gb where
 fn:=λ_=>none
 cn:=λx=>if x=("KINDS":Str)then some (.tup [(.str "queue"),(.str "pile")])else if x=("MOST_PASSES":Str)then some (.int 6)else if x=("MOST_POCKETS":Str)then some (.int 6)else if x=("MOST_WIDTH":Str)then some (.int 9)else if x=("MOST_CODES":Str)then some (.int 1000)else if x=("MOST_LETTERS":Str)then some (.int 24)else none
 no:=λx=>if x=("all":Str)then true else if x=("any":Str)then true else if x=("bool":Str)then true else if x=("enumerate":Str)then true else if x=("int":Str)then true else if x=("isinstance":Str)then true else if x=("len":Str)then true else if x=("list":Str)then true else if x=("max":Str)then true else if x=("min":Str)then true else if x=("range":Str)then true else if x=("sorted":Str)then true else if x=("sum":Str)then true else if x=("tuple":Str)then true else false
 fl:=λC m=>if C=("Mill":Str)/\m=("passes":Str)then true else false
 mt:=λ_ _=>none
 ini:=λ_=>none
abbrev dZ:Stmt:=top 12
abbrev my:List Str:=["value","least","most"]
abbrev mz:List Str:=["value","least","most"]
noncomputable def oN (x:Str) (st:Stmt) (ps:List Str) (us:List Value):Prop:=∀ (qual:Str) (kV doc pm:Value) (an:Option Addr) (cdv ct:Value),bindArgs (PySem.W.fnOf x qual (bN st) (aJ st) (am st) .none kV doc pm an cdv ct) ⟨us,[]⟩=pure (ps.zip us)
theorem bd1 {st} (e:ps.length=1) (h:∀u0,oN x st ps [u0]):dY x st ps:=λq k d p a c t us hl=>match us,hl.trans e with|[u0],_=>h u0 q k d p a c t
theorem bd2 {st} (e:ps.length=2) (h:∀u0 u1,oN x st ps [u0,u1]):dY x st ps:=λq k d p a c t us hl=>match us,hl.trans e with|[u0,u1],_=>h u0 u1 q k d p a c t
theorem bd3 {st} (e:ps.length=3) (h:∀u0 u1 u2,oN x st ps [u0,u1,u2]):dY x st ps:=λq k d p a c t us hl=>match us,hl.trans e with|[u0,u1,u2],_=>h u0 u1 u2 q k d p a c t
theorem bd4 {st} (e:ps.length=4) (h:∀u0 u1 u2 u3,oN x st ps [u0,u1,u2,u3]):dY x st ps:=λq k d p a c t us hl=>match us,hl.trans e with|[u0,u1,u2,u3],_=>h u0 u1 u2 u3 q k d p a c t
def aZ:List D->Option Sl:=dfn 60 0 my mz dZ G0
def G1:Gb:=addF G0 "is_within" 1 aZ
abbrev d4:Stmt:=top 13
abbrev mB:List Str:=["pocket"]
abbrev mC:List Str:=["pocket"]
def cM:List D->Option Sl:=dfn 60 1 mB mC d4 G1
def G2:Gb:=addF G1 "is_pocket" 2 cM
abbrev fM:Stmt:=top 14
abbrev qB:List Str:=["pockets","pocket"]
abbrev qC:List Str:=["pockets"]
def fW:List D->Option Sl:=dfn 60 2 qB qC fM G2
def G3:Gb:=addF G2 "is_pass" 3 fW
abbrev eP:Stmt:=top 16
abbrev oO:List Str:=["passes","product","pockets"]
abbrev oP:List Str:=["passes"]
def cy:List D->Option Sl:=dfn 60 3 oO oP eP G3
def G4:Gb:=addF G3 "codes_of" 4 cy
abbrev dF:Stmt:=top 15
abbrev lW:List Str:=["passes","pockets"]
abbrev lX:List Str:=["passes"]
def bh:List D->Option Sl:=dfn 60 4 lW lX dF G4
def G5:Gb:=addF G4 "are_passes" 5 bh
abbrev aA:Stmt:=z8 (top 17) 0
abbrev b9:List Str:=["self","passes","pockets"]
abbrev dO:List Str:=["self","passes"]
theorem gG:FnScope b9 dO (am aA):=scB
theorem iz:dY "__init__" aA dO:=bd2 rfl λ_ _ _ _ _ _ _ _ _=>rfl
theorem iA (y:Addr):inx 60 (vx b9 aA 5 G5) y (G0.fl "Mill") (aJ aA)=lK bh y:=by kernel_rfl
def oQ:List D->Option (List (Str×D)):=gM bh
def G6:Gb:=addI G5 "Mill" 6 oQ
abbrev lY:Stmt:=top 18
abbrev zH:List Str:=["kind","ahead","code"]
abbrev zI:List Str:=["kind","ahead","code"]
def oR:List D->Option Sl:=dfn 60 6 zH zI lY G6
def G7:Gb:=addF G6 "laid" 7 oR
abbrev cz:Stmt:=top 21
noncomputable abbrev i6:List Str:=["pockets","size","ahead","sides","found","number","pocket","turn","code","side"]
abbrev i7:List Str:=["pockets","size","ahead","sides"]
def ca:List D->Option Sl:=dfn 60 7 i6 i7 cz G7
def G8:Gb:=addF G7 "sides_behind" 8 ca
abbrev dG:Stmt:=top 22
abbrev lZ:List Str:=["mill","size","late","ahead","sides","pockets"]
abbrev l5:List Str:=["mill","size","late"]
def bD:List D->Option Sl:=dfn 60 8 lZ l5 dG G8
def G9:Gb:=addF G8 "open_sides" 9 bD
abbrev bR:Stmt:=top 24
abbrev gH:List Str:=["mill","pockets","kind","width"]
abbrev gI:List Str:=["mill"]
def bE:List D->Option Sl:=dfn 60 9 gH gI bR G9
def G10:Gb:=addF G9 "look_at_widths" 10 bE
abbrev i8:Stmt:=top 26
abbrev vJ:List Str:=["mill","code","side"]
abbrev vK:List Str:=["mill"]
def bF:List D->Option Sl:=dfn 60 10 vJ vK i8 G10
def G11:Gb:=addF G10 "faces" 11 bF
abbrev cA:Stmt:=top 30
abbrev i9:List Str:=["mill","m"]
abbrev jc:List Str:=["mill","m"]
def aI:List D->Option Sl:=dfn 60 11 i9 jc cA G11
def G12:Gb:=addF G11 "useful_sides" 12 aI
abbrev fN:Stmt:=top 27
abbrev qD:List Str:=["side","rising"]
abbrev qE:List Str:=["side","rising"]
def dj:List D->Option Sl:=dfn 60 12 qD qE fN G12
def G13:Gb:=addF G12 "goes_on" 13 dj
abbrev cV:Stmt:=top 32
abbrev jO:List Str:=["sides","stretch","below","place"]
abbrev jP:List Str:=["sides","stretch","below","place"]
def aO:List D->Option Sl:=dfn 60 13 jO jP cV G13
def G14:Gb:=addF G13 "stretch_for" 14 aO
abbrev fO:Stmt:=top 33
abbrev qF:List Str:=["sides","fewer","stretch","below","counts","place","further"]
abbrev qG:List Str:=["sides","fewer","stretch","below"]
def aY:List D->Option Sl:=dfn 60 14 qF qG fO G14
def G15:Gb:=addF G14 "choices" 15 aY
abbrev d5:Stmt:=top 34
abbrev mD:List Str:=["sides","fewer","stretch","below"]
abbrev mE:List Str:=["sides","fewer","stretch"]
def bw:List D->Option Sl:=dfn 60 15 mD mE d5 G15
def G16:Gb:=addF G15 "ways_from" 16 bw
abbrev d6:Stmt:=top 35
abbrev mF:List Str:=["sides","m","tables","left","side","stretch"]
abbrev mG:List Str:=["sides","m"]
def bd:List D->Option Sl:=dfn 60 16 mF mG d6 G16
def G17:Gb:=addF G16 "ways_left" 17 bd
abbrev cW:Stmt:=top 31
abbrev jQ:List Str:=["sides","m"]
abbrev jS:List Str:=["sides","m"]
def aP:List D->Option Sl:=dfn 60 17 jQ jS cW G17
def G18:Gb:=addF G17 "first_below" 18 aP
abbrev cX:Stmt:=top 36
abbrev jT:List Str:=["sides","tables","m"]
abbrev jU:List Str:=["sides","tables","m"]
def bo:List D->Option Sl:=dfn 60 18 jT jU cX G18
def G19:Gb:=addF G18 "ways_in_all" 19 bo
abbrev d7:Stmt:=top 37
abbrev mH:List Str:=["mill","m","sides"]
abbrev mI:List Str:=["mill","m"]
def cO:List D->Option Sl:=dfn 60 19 mH mI d7 G19
def G20:Gb:=addF G19 "many_rows" 20 cO
abbrev gJ:Stmt:=top 38
noncomputable abbrev sK:List Str:=["mill","m","number","sides","tables","letters","row","stretch","below","rest","counts","place"]
abbrev sM:List Str:=["mill","m","number"]
def cb:List D->Option Sl:=dfn 60 20 sK sM gJ G20
def G21:Gb:=addF G20 "row_at" 21 cb
abbrev gK:Stmt:=top 25
abbrev sO:List Str:=["row","letter"]
abbrev sP:List Str:=["row"]
def iB:List D->Option Sl:=dfn 60 21 sO sP gK G21
def G22:Gb:=addF G21 "is_row" 22 iB
abbrev d8:Stmt:=top 28
abbrev mJ:List Str:=["mill","row","sides","found","letter"]
abbrev mK:List Str:=["mill","row"]
def dP:List D->Option Sl:=dfn 60 22 mJ mK d8 G22
def G23:Gb:=addF G22 "stretches" 23 dP
abbrev fP:Stmt:=top 29
abbrev qH:List Str:=["mill","row"]
abbrev qI:List Str:=["mill","row"]
def fX:List D->Option Sl:=dfn 60 23 qH qI fP G23
def G24:Gb:=addF G23 "come_to" 24 fX
abbrev d9:Stmt:=top 39
noncomputable abbrev mL:List Str:=["mill","row","sides","tables","letters","stretch","below","number","letter","place"]
abbrev mM:List Str:=["mill","row"]
def bx:List D->Option Sl:=dfn 60 24 mL mM d9 G24
def G25:Gb:=addF G24 "number_of" 25 bx
abbrev cC:Stmt:=top 41
abbrev jd:List Str:=["script","k","stir","cell"]
abbrev je:List Str:=["script","k"]
def aw:List D->Option Sl:=dfn 60 25 jd je cC G25
def G26:Gb:=addF G25 "_law_cell_at" 26 aw
abbrev cE:Stmt:=top 42
abbrev jf:List Str:=["cell","k","stir"]
abbrev jg:List Str:=["cell","k"]
def ax:List D->Option Sl:=dfn 60 26 jf jg cE G26
def G27:Gb:=addF G26 "_law_stirred" 27 ax
abbrev cF:Stmt:=top 43
abbrev jh:List Str:=["cell","at","most","many","pockets","k","kind","width"]
abbrev ji:List Str:=["cell","at","most"]
def cg:List D->Option Sl:=dfn 60 27 jh ji cF G27
def G28:Gb:=addF G27 "_law_pockets" 28 cg
abbrev cY:Stmt:=top 44
abbrev jV:List Str:=["script","passes","codes","at"]
abbrev jW:List Str:=["script"]
def cJ:List D->Option Sl:=dfn 60 28 jV jW cY G28
def G29:Gb:=addF G28 "_law_passes" 29 cJ
abbrev dH:Stmt:=top 45
noncomputable abbrev l7:List Str:=["passes","signs","codes","pockets","number","left","code","ahead","sign","pocket"]
abbrev l8:List Str:=["passes"]
def df:List D->Option Sl:=dfn 60 29 l7 l8 dH G29
def G30:Gb:=addF G29 "_law_faces" 30 df
abbrev eh:Stmt:=top 46
abbrev mN:List Str:=["script","many","line","k"]
abbrev mO:List Str:=["script","many"]
def dQ:List D->Option Sl:=dfn 60 30 mN mO eh G30
def G31:Gb:=addF G30 "_law_line" 31 dQ
abbrev bS:Stmt:=top 47
abbrev gN:List Str:=["script","many","signs","top","cuts","letters","line","at","part","k"]
abbrev gO:List Str:=["script","many","signs"]
def bG:List D->Option Sl:=dfn 60 31 gN gO bS G31
def G32:Gb:=addF G31 "_law_near_line" 32 bG
abbrev cG:Stmt:=top 49
abbrev jj:List Str:=["sign","one","other"]
abbrev jk:List Str:=["sign","one","other"]
def cj:List D->Option Sl:=dfn 60 32 jj jk cG G32
def G33:Gb:=addF G32 "_law_goes_on" 33 cj
abbrev eQ:Stmt:=top 50
abbrev oS:List Str:=["signs","line","ends","sign","more","end","at","going"]
abbrev oT:List Str:=["signs","line"]
def eR:List D->Option Sl:=dfn 60 33 oS oT eQ G33
def G34:Gb:=addF G33 "_law_can" 34 eR
abbrev dI:Stmt:=top 51
abbrev l9:List Str:=["found"]
abbrev ma:List Str:=["found"]
def bi:List D->Option Sl:=dfn 60 34 l9 ma dI G34
def G35:Gb:=addF G34 "_law_whole" 35 bi
abbrev ck:Stmt:=top 52
abbrev iC:List Str:=["signs","found","many","one"]
abbrev iD:List Str:=["signs","found","many"]
def bm:List D->Option Sl:=dfn 60 35 iC iD ck G35
def G36:Gb:=addF G35 "_law_row_good" 36 bm
abbrev el:Stmt:=top 53
abbrev mP:List Str:=["mill","line","count","number"]
abbrev mQ:List Str:=["mill","line","count"]
def dR:List D->Option Sl:=dfn 60 36 mP mQ el G36
def G37:Gb:=addF G36 "_law_back" 37 dR
abbrev iE:Stmt:=top 54
noncomputable abbrev uz:List Str:=["script","passes","signs","mill","many","count","cell","number","found","kept","later"]
abbrev oU:List Str:=["script"]
theorem zJ:FnScope uz oU (am iE):=scB
theorem BQ:dY "law" iE oU:=bd1 rfl λ_ _ _ _ _ _ _ _=>rfl
def Ib:List D->Option Sl:=dfn 60 37 uz oU iE G37
structure Tx (K:Frag):Prop where
 v0:aX K "is_within" dZ
 v1:aX K "is_pocket" d4
 v2:aX K "is_pass" fM
 v3:aX K "codes_of" eP
 v4:aX K "are_passes" dF
 v5:aX K "laid" lY
 v6:aX K "sides_behind" cz
 v7:aX K "open_sides" dG
 v8:aX K "look_at_widths" bR
 v9:aX K "faces" i8
 v10:aX K "useful_sides" cA
 v11:aX K "goes_on" fN
 v12:aX K "stretch_for" cV
 v13:aX K "choices" fO
 v14:aX K "ways_from" d5
 v15:aX K "ways_left" d6
 v16:aX K "first_below" cW
 v17:aX K "ways_in_all" cX
 v18:aX K "many_rows" d7
 v19:aX K "row_at" gJ
 v20:aX K "is_row" gK
 v21:aX K "stretches" d8
 v22:aX K "come_to" fP
 v23:aX K "number_of" d9
 v24:aX K "_law_cell_at" cC
 v25:aX K "_law_stirred" cE
 v26:aX K "_law_pockets" cF
 v27:aX K "_law_passes" cY
 v28:aX K "_law_faces" dH
 v29:aX K "_law_line" eh
 v30:aX K "_law_near_line" bS
 v31:aX K "_law_goes_on" cG
 v32:aX K "_law_can" eQ
 v33:aX K "_law_whole" dI
 v34:aX K "_law_row_good" ck
 v35:aX K "_law_back" el
 v36:aX K "law" iE
 v37:Bj K "Mill" "__init__" "Mill.__init__" aA
 v38:TCls K "Mill"
 v39:∃Ca,nsIn K mainGlobals "Mill"=some (some (.ref Ca))/\findIn K (.ref Ca) "passes"=some none
 v40:∃ (a:Addr) (od:Option Addr) (n:Nat) (sl:Array (Option Value)) (t0:Tok) (t1:Tok),nsIn K mainGlobals "KINDS"=some (some (.ref a))/\K.lookup a=some ⟨.type "tuple",od,.seq #[.str "queue" t0,.str "pile" t1] n,sl⟩
 v41:∃t,nsIn K mainGlobals "MOST_PASSES"=some (some (.int 6 t))
 v42:∃t,nsIn K mainGlobals "MOST_POCKETS"=some (some (.int 6 t))
 v43:∃t,nsIn K mainGlobals "MOST_WIDTH"=some (some (.int 9 t))
 v44:∃t,nsIn K mainGlobals "MOST_CODES"=some (some (.int 1000 t))
 v45:∃t,nsIn K mainGlobals "MOST_LETTERS"=some (some (.int 24 t))
 v46:nsIn K mainGlobals "all"=some none
 v47:nsIn K mainGlobals "any"=some none
 v48:nsIn K mainGlobals "bool"=some none
 v49:nsIn K mainGlobals "enumerate"=some none
 v50:nsIn K mainGlobals "int"=some none
 v51:nsIn K mainGlobals "isinstance"=some none
 v52:nsIn K mainGlobals "len"=some none
 v53:nsIn K mainGlobals "list"=some none
 v54:nsIn K mainGlobals "max"=some none
 v55:nsIn K mainGlobals "min"=some none
 v56:nsIn K mainGlobals "range"=some none
 v57:nsIn K mainGlobals "sorted"=some none
 v58:nsIn K mainGlobals "sum"=some none
 v59:nsIn K mainGlobals "tuple"=some none
theorem mf:im aZ:=tr (yA)
theorem zK:oy cM:=tr (yB mf)
theorem E9:yC fW:=tr (Eo zK)
theorem uA:lL cy:=tr (Bp)
theorem Ic:Ep bh:=tr (Hy E9 uA)
theorem Fa:ue oQ:=Er Ic
theorem Cy:G0.fl "Mill" "passes"=true:=by kernel_rfl
theorem Fb:yH oR:=tr (Et)
theorem zL:oE ca:=tr (yX Fb)
theorem BR:sD bD:=tr (BD Cy zL uA)
theorem Ie:Ey bE:=tr (HF Cy)
theorem BS:sE bF:=tr (BF BR Ie)
theorem Kp:sLF df:=tr (J9)
theorem Ig:sGo dj:=tr (Ka)
theorem Fc:sSf aO:=tr (Kb Ig)
theorem Fd:sCh aY:=tr (Kc Fc)
theorem Kq:sWf bw:=tr (Ke Fd)
theorem Fe:sWl bd:=tr (Kf Kq)
theorem Ff:sFb aP:=tr (Kg)
theorem Ih:sIa bo:=tr (Kh Ff)
theorem Fg:sUs bF aI:=tr (Ki)
theorem Kr:sMr bF cO:=tr (Kj Fe Ih Fg)
theorem Ks:ss iB:=tr (Bw mf)
theorem Ii:EF bF dP:=tr (HR Ig Ks)
theorem Fh:y6 bF fX:=tr (EH Ii)
theorem Kt:sRa bF cb:=tr (Kk Fc Fd Ff Ih mf Fe Fg)
theorem Ku:sNo bF bx:=tr (Kl Fc Fd Ff Fe Fg Fh)
theorem Kv:sLg cj:=tr (Km)
theorem Ij:EU eR:=tr (HX Kv)
theorem oV:nI aw:=tr (EL)
theorem sQ:qz ax:=tr (EM)
theorem vL:lT cg:=tr (vG sQ)
theorem zM:oJ cJ:=tr (y9 oV vL)
theorem Fi:zx dQ:=tr (EV oV sQ)
theorem Fj:zD bG:=tr (EW Fi oV sQ)
theorem Ik:sWh bi:=tr (Kn)
theorem Kw:sRg bm:=tr (Ko Ij Ik)
theorem Kx:dR=aQ 3 4 (cL cb bi bx):=by kernel_rfl
theorem Il:∀ns:List Int,ns.length<=63->gz (Ib [.lst (ns.map D.int)])=some (.bl true):=λns hn=>by
 exact tr (P:=λf:Fn=>gz (f [.lst (ns.map D.int)])=some (.bl true)) (Ia Kr Fj Kx Kt Kw Ku oV Fa Kp zM BS Ik ns hn) (by kernel_rfl)
noncomputable def Q:Program:={PySem.Challenge.pw_pocketmill_k39_numbers_there_and_back with main:={PySem.Challenge.pw_pocketmill_k39_numbers_there_and_back.main with body:=[top 1,top 2,top 3,top 4,top 5,top 7,top 8,top 9,top 10,top 11,top 12,top 13,top 14,top 15,top 16,top 17,top 18,top 19,top 21,top 22,top 24,top 25,top 26,top 27,top 28,top 29,top 30,top 31,top 32,top 33,top 34,top 35,top 36,top 37,top 38,top 39,top 41,top 42,top 43,top 44,top 45,top 46,top 47,top 48,top 49,top 50,top 51,top 52,top 53,top 54]}}
abbrev kH (P:Params) (x:Str) (n:Nat) (v:Value):DictEntry:=⟨PyData.keyHash P x,(.str x n),v⟩
noncomputable abbrev kC (x:Str) (a:Nat) (y:Str) (b c:Nat) (i j k l m:Int) (r:Nat) (n:Int) (p:Nat) (v q s t:Value) (u w:Int) (d:Nat):Obj:=⟨(.type "code"),none,(.fields #[(.str x a),(.str y b),(.str "/claim/cut.py" c),(.int i 0),(.int j 0),(.int k 0),(.int l 0),(.int m 0),(.ref r),(.bool true),(.int n 0),(.ref p),v,q,s,t,(.int u 0),(.int w 0),(.str "/claim/cut.py" d)]),#[]⟩
noncomputable abbrev kF (x y:Str) (st:Stmt) (z:Str) (n r:Nat):Obj:=⟨(.type "function"),none,(.func (PySem.W.fnOf x y (bN st) (aJ st) (am st) .none .none .none (.str z n) none (.ref r) .none)),#[]⟩
theorem tdG {K} {st} (f:Addr) (z:Str) (n c:Nat) (a:(nsIn K mainGlobals x,K.lookup f,PySem.W.codeIn K (.ref c) x,PySem.W.keepIn K (.ref f))=(some (some (.ref f)),some ⟨.type "function",none,.func (PySem.W.fnOf x x (bN st) (aJ st) (am st) .none .none .none (.str z n) none (.ref c) .none),#[]⟩,true,true):=by kernel_rfl):aX K x st:=by
 simp only[Prod.mk.injEq]at a;exact J0 a.1 a.2.1 a.2.2.1 a.2.2.2
abbrev mN0:Str:="law_pocketmill_k39_numbers_there_and_back"
abbrev mN1:Str:="pocketmill.counting"
abbrev mN2:Str:="pocketmill.least"
abbrev mN3:Str:="pocketmill.mills"
noncomputable abbrev kD (x:Str) (a:Nat) (i j:Int) (r:Nat) (e:Int):Obj:=kC x a x (a+1) (a+2) i j 0 0 3 r 181 (r+1) .none (.ref (r+2)) (.ref (r+3)) (.ref (r+4)) e i (e+1).toNat
noncomputable abbrev kE (x:Str) (a:Nat) (i j:Int) (r:Nat) (e:Int):Obj:=kC x a x (a+1) (a+2) i j 0 0 3 r 181 (r+1) .none .none .none (.ref (r+2)) e i (e+1).toNat
abbrev kG (x:Str) (st:Stmt) (z:Str) (n r:Nat):Obj:=kF x x st z n r
noncomputable def KK (P:Params):Frag:=[(2,⟨.none,none,(.dict #[] 0),#[]⟩),
 (3,⟨(.type "dict"),none,(.dict #[(kH P "__name__" 165 (.str "law_pocketmill_k39_numbers_there_and_back" 543)),(kH P "__doc__" 166 .none),(kH P "__package__" 167 .none),(kH P "__loader__" 168 (.builtin "__main__.__loader__#opaque")),(kH P "__spec__" 169 .none),(kH P "__annotations__" 170 (.ref 6)),(kH P "__builtins__" 171 (.ref 4)),(kH P "__file__" 173 (.str "/claim/cut.py" 172)),(kH P "__cached__" 174 .none),(kH P "MillError" 206 (.ref 24)),(kH P "BadMill" 222 (.ref 37)),(kH P "BadRow" 238 (.ref 49)),(kH P "NoRow" 254 (.ref 61)),(kH P "Shut" 270 (.ref 73)),(kH P "KINDS" 275 (.ref 76)),(kH P "MOST_PASSES" 277 (.int 6 276)),(kH P "MOST_POCKETS" 279 (.int 6 278)),(kH P "MOST_WIDTH" 281 (.int 9 280)),(kH P "MOST_CODES" 283 (.int 1000 282)),(kH P "is_within" 292 (.ref 83)),(kH P "is_pocket" 299 (.ref 90)),(kH P "is_pass" 305 (.ref 95)),(kH P "are_passes" 311 (.ref 100)),(kH P "codes_of" 320 (.ref 107)),(kH P "Mill" 361 (.ref 136)),(kH P "laid" 370 (.ref 147)),(kH P "MOST_LETTERS" 372 (.int 24 371)),(kH P "sides_behind" 380 (.ref 152)),(kH P "open_sides" 392 (.ref 159)),(kH P "look_at_widths" 400 (.ref 164)),(kH P "is_row" 406 (.ref 169)),(kH P "faces" 412 (.ref 174)),(kH P "goes_on" 420 (.ref 181)),(kH P "stretches" 431 (.ref 188)),(kH P "come_to" 439 (.ref 195)),(kH P "useful_sides" 447 (.ref 202)),(kH P "first_below" 455 (.ref 209)),(kH P "stretch_for" 465 (.ref 216)),(kH P "choices" 478 (.ref 223)),(kH P "ways_from" 484 (.ref 228)),(kH P "ways_left" 490 (.ref 233)),(kH P "ways_in_all" 499 (.ref 240)),(kH P "many_rows" 508 (.ref 247)),(kH P "row_at" 526 (.ref 254)),(kH P "number_of" 542 (.ref 261)),(kH P "_law_cell_at" 554 (.ref 268)),(kH P "_law_stirred" 563 (.ref 275)),(kH P "_law_pockets" 577 (.ref 282)),(kH P "_law_passes" 587 (.ref 289)),(kH P "_law_faces" 593 (.ref 294)),(kH P "_law_line" 603 (.ref 301)),(kH P "_law_near_line" 609 (.ref 306)),(kH P "_law_any_line" 622 (.ref 313)),(kH P "_law_goes_on" 631 (.ref 320)),(kH P "_law_can" 645 (.ref 327)),(kH P "_law_whole" 652 (.ref 334)),(kH P "_law_row_good" 658 (.ref 339)),(kH P "_law_back" 668 (.ref 346)),(kH P "law" 685 (.ref 353))] 59),#[]⟩),
 (76,⟨(.type "tuple"),none,(.seq #[(.str "queue" 273),(.str "pile" 274)] 0),#[]⟩),
 (82,(kD "is_within" 284 18 3 77 290)),
 (83,(kG "is_within" dZ mN3 271 82)),
 (89,(kD "is_pocket" 293 20 1 84 297)),
 (90,(kG "is_pocket" d4 mN3 271 89)),
 (94,(kE "is_pass" 300 24 1 91 303)),
 (95,(kG "is_pass" fM mN3 271 94)),
 (99,(kE "are_passes" 306 28 1 96 309)),
 (100,(kG "are_passes" dF mN3 271 99)),
 (106,(kD "codes_of" 312 32 1 101 318)),
 (107,(kG "codes_of" eP mN3 271 106)),
 (118,(kC "__init__" 333 "Mill.__init__" 334 335 39 2 0 0 3 115 181 116 .none .none .none (.ref 117) 336 39 337)),
 (119,(kF "__init__" "Mill.__init__" aA mN3 271 118)),
 (125,(kC "codes" 339 "Mill.codes" 340 341 44 1 0 0 3 120 181 121 .none (.ref 122) (.ref 123) (.ref 124) 343 44 344)),
 (132,(kC "many" 346 "Mill.many" 347 348 47 1 0 0 3 127 181 128 .none (.ref 129) (.ref 130) (.ref 131) 350 47 351)),
 (134,⟨(.type "tuple"),none,(.seq #[(.str "passes" 353)] 0),#[]⟩),
 (135,⟨(.type "dict"),none,(.dict #[(kH P "__module__" 328 (.str "pocketmill.mills" 271)),(kH P "__firstlineno__" 332 (.int 37 331)),(kH P "__init__" 338 (.ref 119)),(kH P "codes" 345 (.ref 126)),(kH P "many" 352 (.ref 133)),(kH P "__static_attributes__" 354 (.ref 134)),(kH P "__dict__" 356 (.ref 137)),(kH P "__weakref__" 358 (.ref 138)),(kH P "__doc__" 359 .none)] 4),#[]⟩),
 (136,⟨(.type "type"),none,(.cls ⟨"Mill",[(.type "object")],[(.ref 136),(.type "object")],135,"Mill",true,[],[],false,none,false⟩),#[none,none,(some (.str "Mill" 321)),(some (.str "Mill" 329)),(some (.builtin "object.__new__")),(some (.bool true))]⟩),
 (137,⟨(.type "getset_descriptor"),none,(.fields #[(.str "__dict__" 355),(.ref 136),(.builtin "function.__dict__"),(.builtin "function.__dict__#set")]),#[]⟩),
 (138,⟨(.type "getset_descriptor"),none,(.fields #[(.str "__weakref__" 357),(.ref 136),(.builtin "ExceptionGroup.__weakref__"),.none]),#[]⟩),
 (146,(kD "laid" 362 49 3 141 368)),
 (147,(kG "laid" lY mN3 271 146)),
 (151,(kE "sides_behind" 375 53 4 148 378)),
 (152,(kG "sides_behind" cz mN2 373 151)),
 (158,(kD "open_sides" 381 60 3 153 390)),
 (159,(kG "open_sides" dG mN2 373 158)),
 (163,(kE "look_at_widths" 395 68 1 160 398)),
 (164,(kG "look_at_widths" bR mN1 393 163)),
 (168,(kE "is_row" 401 72 1 165 404)),
 (169,(kG "is_row" gK mN1 393 168)),
 (173,(kE "faces" 407 76 1 170 410)),
 (174,(kG "faces" i8 mN1 393 173)),
 (180,(kD "goes_on" 413 79 2 175 418)),
 (181,(kG "goes_on" fN mN1 393 180)),
 (187,(kD "stretches" 421 81 2 182 429)),
 (188,(kG "stretches" d8 mN1 393 187)),
 (194,(kD "come_to" 432 94 2 189 437)),
 (195,(kG "come_to" fP mN1 393 194)),
 (201,(kD "useful_sides" 440 96 2 196 445)),
 (202,(kG "useful_sides" cA mN1 393 201)),
 (208,(kD "first_below" 448 98 2 203 453)),
 (209,(kG "first_below" cW mN1 393 208)),
 (215,(kD "stretch_for" 456 100 4 210 463)),
 (216,(kG "stretch_for" cV mN1 393 215)),
 (222,(kD "choices" 466 102 4 217 476)),
 (223,(kG "choices" fO mN1 393 222)),
 (227,(kE "ways_from" 479 108 3 224 482)),
 (228,(kG "ways_from" d5 mN1 393 227)),
 (232,(kE "ways_left" 485 110 2 229 488)),
 (233,(kG "ways_left" d6 mN1 393 232)),
 (239,(kD "ways_in_all" 491 115 3 234 497)),
 (240,(kG "ways_in_all" cX mN1 393 239)),
 (246,(kD "many_rows" 500 117 2 241 506)),
 (247,(kG "many_rows" d7 mN1 393 246)),
 (253,(kD "row_at" 509 120 3 248 524)),
 (254,(kG "row_at" gJ mN1 393 253)),
 (260,(kD "number_of" 527 140 2 255 540)),
 (261,(kG "number_of" d9 mN1 393 260)),
 (267,(kD "_law_cell_at" 545 157 2 262 552)),
 (268,(kG "_law_cell_at" cC mN0 543 267)),
 (274,(kD "_law_stirred" 555 164 2 269 561)),
 (275,(kG "_law_stirred" cE mN0 543 274)),
 (281,(kD "_law_pockets" 564 168 3 276 575)),
 (282,(kG "_law_pockets" cF mN0 543 281)),
 (288,(kD "_law_passes" 578 178 1 283 585)),
 (289,(kG "_law_passes" cY mN0 543 288)),
 (293,(kE "_law_faces" 588 185 1 290 591)),
 (294,(kG "_law_faces" dH mN0 543 293)),
 (300,(kD "_law_line" 594 205 2 295 601)),
 (301,(kG "_law_line" eh mN0 543 300)),
 (305,(kE "_law_near_line" 604 210 3 302 607)),
 (306,(kG "_law_near_line" bS mN0 543 305)),
 (319,(kD "_law_goes_on" 623 231 3 314 629)),
 (320,(kG "_law_goes_on" cG mN0 543 319)),
 (326,(kD "_law_can" 632 235 2 321 643)),
 (327,(kG "_law_can" eQ mN0 543 326)),
 (333,(kD "_law_whole" 646 249 1 328 650)),
 (334,(kG "_law_whole" dI mN0 543 333)),
 (338,(kE "_law_row_good" 653 251 3 335 656)),
 (339,(kG "_law_row_good" ck mN0 543 338)),
 (345,(kD "_law_back" 659 255 3 340 666)),
 (346,(kG "_law_back" el mN0 543 345)),
 (352,(kD "law" 669 258 1 347 683)),
 (353,(kG "law" iE mN0 543 352))]
noncomputable def adr:List Addr:=[2,3,76,82,83,89,90,94,95,99,100,106,107,118,119,125,132,134,135,136,137,138,146,147,151,152,158,159,163,164,168,169,173,174,180,181,187,188,194,195,201,202,208,209,215,216,222,223,227,228,232,233,239,240,246,247,253,254,260,261,267,268,274,275,281,282,288,289,293,294,300,301,305,306,319,320,326,327,333,334,338,339,345,346,352,353]
theorem adr_ok (P:Params):adr=(KK P).map (·.1):=by kernel_rfl
abbrev NN:Nat:=5300
noncomputable def env0:Env:={scope:=PySem.Challenge.pw_pocketmill_k39_numbers_there_and_back.main.scope,locals:=mainNs,globals:=mainNs,cells:=[],code:=(.ref 13),frame:=some 14}
theorem Fk:∀w:World,(PySem.W.fencedOpening treeTable PySem.Challenge.pw_pocketmill_k39_numbers_there_and_back w NN).map (λs=>(s.heap,s.gens,s.drawn,s.toks))=some (PySem.W.boot_heap w.params,Array.mk [],PySem.W.boot_drawn,PySem.W.boot_toks):=PySem.W.boot_open (by kernel_rfl) (by decide) (λs=>by kernel_rfl)
theorem Fl (w:World):(PySem.W.boot_heap w.params).isNs mainGlobals=true/\(PySem.W.boot_heap w.params).objs.size=11/\(PySem.W.boot_heap w.params).nsMap mainGlobals "__annotations__"=(some (.ref 6)):=⟨by kernel_rfl,by kernel_rfl,by kernel_rfl⟩
theorem t_A (w:World) (os:OsState):(HD.A PySem.Challenge.pw_pocketmill_k39_numbers_there_and_back 11 (some (.ref 6)) 12 w os).map (·.2)=some ⟨denote treeTable (HD.cd PySem.Challenge.pw_pocketmill_k39_numbers_there_and_back env0),HD.cd PySem.Challenge.pw_pocketmill_k39_numbers_there_and_back env0,⟨0,0,0,0⟩,[PySem.W.topFrame ⟨0,0,0,0⟩]⟩:=by kernel_rfl
theorem t_B (w:World) (os:OsState):(HD.B PySem.Challenge.pw_pocketmill_k39_numbers_there_and_back 11 ((some (.ref 6))) env0 ⟨0,0,0,0⟩ ⟨0,0,0,0⟩ 12 1 w os).map (λr=>(r.1,r.2.2))=some (.next,HD.cd PySem.Challenge.pw_pocketmill_k39_numbers_there_and_back env0,⟨0,0,0,0⟩):=by kernel_rfl
theorem t_T (w:World) (os:OsState):(HD.toT (HD.SB PySem.Challenge.pw_pocketmill_k39_numbers_there_and_back 11 ((some (.ref 6))) env0 ⟨0,0,0,0⟩ ⟨0,0,0,0⟩ 12 1 w os)).abs=HD.SB PySem.Challenge.pw_pocketmill_k39_numbers_there_and_back 11 ((some (.ref 6))) env0 ⟨0,0,0,0⟩ ⟨0,0,0,0⟩ 12 1 w os:=by kernel_rfl
theorem t_C (w:World) (os:OsState):(HD.C PySem.Challenge.pw_pocketmill_k39_numbers_there_and_back 11 ((some (.ref 6))) env0 ⟨0,0,0,0⟩ ⟨0,0,0,0⟩ ⟨0,0,0,0⟩ 12 1 2588 w os).map (λr=>(r.1,r.2.2))=some (.next,HD.cd PySem.Challenge.pw_pocketmill_k39_numbers_there_and_back env0,⟨258,0,277,102⟩):=by kernel_rfl
theorem t_F (w:World) (s:Shared):PySem.W.topRun treeTable PySem.Challenge.pw_pocketmill_k39_numbers_there_and_back w 11 (some (.ref 6)) 2 s ⟨PySem.W.doneF .next,HD.cd PySem.Challenge.pw_pocketmill_k39_numbers_there_and_back env0,⟨258,0,277,102⟩,[PySem.W.topFrame ⟨0,0,0,0⟩]⟩=some s:=by kernel_rfl
noncomputable abbrev FF (w:World) (os:OsState):Shared:=(HD.SC PySem.Challenge.pw_pocketmill_k39_numbers_there_and_back 11 ((some (.ref 6))) env0 ⟨0,0,0,0⟩ ⟨0,0,0,0⟩ ⟨0,0,0,0⟩ 12 1 2588 w os).abs
noncomputable abbrev XT (s:Shared):Bool:=PySem.W.xlAt Q [] s&&PySem.W.recOk PySem.Challenge.rw_pocketmill_k39_numbers_there_and_back.row.records s
theorem Ky (w:World) (os:OsState):(PySem.W.staticsOk (importedModules PySem.Challenge.pw_pocketmill_k39_numbers_there_and_back.main.body) (PySem.W.boot_heap w.params) (FF w os).heap&&PySem.W.namesBound PySem.Challenge.pw_pocketmill_k39_numbers_there_and_back (FF w os).heap&&PySem.W.gensDone (FF w os)&&PySem.W.laidKept (PySem.W.boot_heap w.params) (FF w os).heap)=true:=by
 rw[PySem.W.Fast.te5923862056798008813];kernel_rfl
theorem Kz (w:World) (os:OsState):PySem.W.openSeen Q [] (importedModules PySem.Challenge.pw_pocketmill_k39_numbers_there_and_back.main.body) XT true (FF w os)=PySem.W.openGood Q []:=by
 rw[PySem.W.Fast.te5923862056798008813,PySem.W.Fast.te4187177175401517315];kernel_rfl
theorem KA (w:World) (os:OsState):adr.map (FF w os).heap.get?=(KK w.params).map λp=>some p.2:=by kernel_rfl
theorem t_left:PySem.W.LeftO PySem.Challenge.pw_pocketmill_k39_numbers_there_and_back Q [] XT (PySem.W.Hook.obs (PySem.W.kHook KK adr adr_ok)) (PySem.W.Hook.val (PySem.W.kHook KK adr adr_ok)) NN:=
 HD.left_of Fk Fl (HD.run_of t_A t_B t_T t_C t_F) (by decide) λw os=>by rw[Ky w os,Kz w os];exact congrArg (λz=>(true,PySem.W.openGood Q [],z)) (KA w os)
theorem iF (P:Params):Bj (KK P) "Mill" "__init__" "Mill.__init__" aA:=J2 (Ca:=136) (f:=119) (oc:=(.type "function")) (od:=none) (an:=none) (osl:=#[]) (kV:=.none) (doc:=.none) (pm:=(.str "pocketmill.mills" 271)) (cdv:=(.ref 118)) (ct:=.none) (by kernel_rfl) (by kernel_rfl) (by kernel_rfl) (by kernel_rfl) (by kernel_rfl) (by kernel_rfl)
theorem tx (P:Params):Tx (KK P):=⟨tdG 83 mN3 271 82,tdG 90 mN3 271 89,tdG 95 mN3 271 94,tdG 107 mN3 271 106,tdG 100 mN3 271 99,tdG 147 mN3 271 146,tdG 152 mN2 373 151,tdG 159 mN2 373 158,tdG 164 mN1 393 163,tdG 174 mN1 393 173,tdG 202 mN1 393 201,tdG 181 mN1 393 180,tdG 216 mN1 393 215,tdG 223 mN1 393 222,tdG 228 mN1 393 227,tdG 233 mN1 393 232,tdG 209 mN1 393 208,tdG 240 mN1 393 239,tdG 247 mN1 393 246,tdG 254 mN1 393 253,tdG 169 mN1 393 168,tdG 188 mN1 393 187,tdG 195 mN1 393 194,tdG 261 mN1 393 260,tdG 268 mN0 543 267,tdG 275 mN0 543 274,tdG 282 mN0 543 281,tdG 289 mN0 543 288,tdG 294 mN0 543 293,tdG 301 mN0 543 300,tdG 306 mN0 543 305,tdG 320 mN0 543 319,tdG 327 mN0 543 326,tdG 334 mN0 543 333,tdG 339 mN0 543 338,tdG 346 mN0 543 345,tdG 353 mN0 543 352,iF P,J3 (Ca:=136) (by kernel_rfl) (by kernel_rfl) (by kernel_rfl) (by kernel_rfl) (by kernel_rfl) (by kernel_rfl) (by kernel_rfl),tno (Ca:=136) (by kernel_rfl) (by kernel_rfl),HB (a:=76) (od:=none) (n:=0) (sl:=#[]) (t0:=273) (t1:=274) (by kernel_rfl) (by kernel_rfl),yJ (t:=276) (by kernel_rfl),yJ (t:=278) (by kernel_rfl),yJ (t:=280) (by kernel_rfl),yJ (t:=282) (by kernel_rfl),yJ (t:=371) (by kernel_rfl),(by kernel_rfl),(by kernel_rfl),(by kernel_rfl),(by kernel_rfl),(by kernel_rfl),(by kernel_rfl),(by kernel_rfl),(by kernel_rfl),(by kernel_rfl),(by kernel_rfl),(by kernel_rfl),(by kernel_rfl),(by kernel_rfl),(by kernel_rfl)⟩
section
variable {P:Program} {w:World} {K:Frag} {mg:Str->Option Value} {base h:Heap}
theorem gF {st} (z:K.In h/\h.Ns mainGlobals mg/\Tx K) (g:GbOk P w K mg base G) (k:Nat) (t:aX K x st) (S:FnScope N ps (am st):=by exact scB) (b:dY x st ps:=by first|exact bd1 rfl λ_ _ _ _ _ _ _ _=>rfl|exact bd2 rfl λ_ _ _ _ _ _ _ _ _=>rfl|exact bd3 rfl λ_ _ _ _ _ _ _ _ _ _=>rfl|exact bd4 rfl λ_ _ _ _ _ _ _ _ _ _ _=>rfl):GbOk P w K mg base (addF G x (k+1) (dfn 60 k N ps st G)):=g.addF (Hi g z.1 z.2.1 60 k S b t)
variable (z:K.In h/\h.Ns mainGlobals mg/\Tx K)
include z
theorem g0:GbOk P w K mg base G0 where
 fn:=λx k f e=>nomatch e
 cn:=λx d e=>by
  simp only[G0]at e;split at e
  ·rename_i q;cases e;rw[q];exact cn_2str z.1 z.2.1 z.2.2.v40
  split at e
  ·rename_i q;cases e;rw[q];exact cn_int z.1 z.2.1 z.2.2.v41
  split at e
  ·rename_i q;cases e;rw[q];exact cn_int z.1 z.2.1 z.2.2.v42
  split at e
  ·rename_i q;cases e;rw[q];exact cn_int z.1 z.2.1 z.2.2.v43
  split at e
  ·rename_i q;cases e;rw[q];exact cn_int z.1 z.2.1 z.2.2.v44
  split at e
  ·rename_i q;cases e;rw[q];exact cn_int z.1 z.2.1 z.2.2.v45
  cases e
 no:=λx e=>by
  dsimp only[G0]at e;by_cases q:x=("all":Str)
  ·rw[q];exact PySem.W.mg_none_of z.1 z.2.1 z.2.2.v46
  rw[if_neg q]at e;clear q;by_cases q:x=("any":Str)
  ·rw[q];exact PySem.W.mg_none_of z.1 z.2.1 z.2.2.v47
  rw[if_neg q]at e;clear q;by_cases q:x=("bool":Str)
  ·rw[q];exact PySem.W.mg_none_of z.1 z.2.1 z.2.2.v48
  rw[if_neg q]at e;clear q;by_cases q:x=("enumerate":Str)
  ·rw[q];exact PySem.W.mg_none_of z.1 z.2.1 z.2.2.v49
  rw[if_neg q]at e;clear q;by_cases q:x=("int":Str)
  ·rw[q];exact PySem.W.mg_none_of z.1 z.2.1 z.2.2.v50
  rw[if_neg q]at e;clear q;by_cases q:x=("isinstance":Str)
  ·rw[q];exact PySem.W.mg_none_of z.1 z.2.1 z.2.2.v51
  rw[if_neg q]at e;clear q;by_cases q:x=("len":Str)
  ·rw[q];exact PySem.W.mg_none_of z.1 z.2.1 z.2.2.v52
  rw[if_neg q]at e;clear q;by_cases q:x=("list":Str)
  ·rw[q];exact PySem.W.mg_none_of z.1 z.2.1 z.2.2.v53
  rw[if_neg q]at e;clear q;by_cases q:x=("max":Str)
  ·rw[q];exact PySem.W.mg_none_of z.1 z.2.1 z.2.2.v54
  rw[if_neg q]at e;clear q;by_cases q:x=("min":Str)
  ·rw[q];exact PySem.W.mg_none_of z.1 z.2.1 z.2.2.v55
  rw[if_neg q]at e;clear q;by_cases q:x=("range":Str)
  ·rw[q];exact PySem.W.mg_none_of z.1 z.2.1 z.2.2.v56
  rw[if_neg q]at e;clear q;by_cases q:x=("sorted":Str)
  ·rw[q];exact PySem.W.mg_none_of z.1 z.2.1 z.2.2.v57
  rw[if_neg q]at e;clear q;by_cases q:x=("sum":Str)
  ·rw[q];exact PySem.W.mg_none_of z.1 z.2.1 z.2.2.v58
  rw[if_neg q]at e;clear q;by_cases q:x=("tuple":Str)
  ·rw[q];exact PySem.W.mg_none_of z.1 z.2.1 z.2.2.v59
  rw[if_neg q]at e;clear q;cases e
 fl:=λC m Ca e hc=>by
  simp only[G0]at e;split at e
  ·rename_i q;rw[q.1]at hc;exact⟨Bt z.2.2.v38 hc,fl_one z.2.2.v39 q.2 Ca hc⟩
  cases e
 mt:=λm C k f e=>nomatch e
 ini:=λC k g e=>nomatch e
theorem g1:GbOk P w K mg base G1:=gF z (g0 z) 0 z.2.2.v0
theorem g2:GbOk P w K mg base G2:=gF z (g1 z) 1 z.2.2.v1
theorem g3:GbOk P w K mg base G3:=gF z (g2 z) 2 z.2.2.v2
theorem g4:GbOk P w K mg base G4:=gF z (g3 z) 3 z.2.2.v3
theorem g5:GbOk P w K mg base G5:=gF z (g4 z) 4 z.2.2.v4
theorem g6:GbOk P w K mg base G6:=by
 have g:GbOk P w K mg base G5:=g5 z;exact g.addI (Hj g z.1 z.2.1 60 5 (G0.fl "Mill") gG iz z.2.2.v38 z.2.2.v37 (λf e=>by
  simp only[G0]at e;split at e
  ·rename_i q;exact fl_one z.2.2.v39 q.2
  cases e) (λds r hr y=>by
  rw[show(λy=>inx 60 (vx b9 aA 5 G5) y (G0.fl "Mill") (aJ aA))=lK bh from funext iA];exact sj ds r hr y))
theorem g7:GbOk P w K mg base G7:=gF z (g6 z) 6 z.2.2.v5
theorem g8:GbOk P w K mg base G8:=gF z (g7 z) 7 z.2.2.v6
theorem g9:GbOk P w K mg base G9:=gF z (g8 z) 8 z.2.2.v7
theorem g10:GbOk P w K mg base G10:=gF z (g9 z) 9 z.2.2.v8
theorem g11:GbOk P w K mg base G11:=gF z (g10 z) 10 z.2.2.v9
theorem g12:GbOk P w K mg base G12:=gF z (g11 z) 11 z.2.2.v10
theorem g13:GbOk P w K mg base G13:=gF z (g12 z) 12 z.2.2.v11
theorem g14:GbOk P w K mg base G14:=gF z (g13 z) 13 z.2.2.v12
theorem g15:GbOk P w K mg base G15:=gF z (g14 z) 14 z.2.2.v13
theorem g16:GbOk P w K mg base G16:=gF z (g15 z) 15 z.2.2.v14
theorem g17:GbOk P w K mg base G17:=gF z (g16 z) 16 z.2.2.v15
theorem g18:GbOk P w K mg base G18:=gF z (g17 z) 17 z.2.2.v16
theorem g19:GbOk P w K mg base G19:=gF z (g18 z) 18 z.2.2.v17
theorem g20:GbOk P w K mg base G20:=gF z (g19 z) 19 z.2.2.v18
theorem g21:GbOk P w K mg base G21:=gF z (g20 z) 20 z.2.2.v19
theorem g22:GbOk P w K mg base G22:=gF z (g21 z) 21 z.2.2.v20
theorem g23:GbOk P w K mg base G23:=gF z (g22 z) 22 z.2.2.v21
theorem g24:GbOk P w K mg base G24:=gF z (g23 z) 23 z.2.2.v22
theorem g25:GbOk P w K mg base G25:=gF z (g24 z) 24 z.2.2.v23
theorem g26:GbOk P w K mg base G26:=gF z (g25 z) 25 z.2.2.v24
theorem g27:GbOk P w K mg base G27:=gF z (g26 z) 26 z.2.2.v25
theorem g28:GbOk P w K mg base G28:=gF z (g27 z) 27 z.2.2.v26
theorem g29:GbOk P w K mg base G29:=gF z (g28 z) 28 z.2.2.v27
theorem g30:GbOk P w K mg base G30:=gF z (g29 z) 29 z.2.2.v28
theorem g31:GbOk P w K mg base G31:=gF z (g30 z) 30 z.2.2.v29
theorem g32:GbOk P w K mg base G32:=gF z (g31 z) 31 z.2.2.v30
theorem g33:GbOk P w K mg base G33:=gF z (g32 z) 32 z.2.2.v31
theorem g34:GbOk P w K mg base G34:=gF z (g33 z) 33 z.2.2.v32
theorem g35:GbOk P w K mg base G35:=gF z (g34 z) 34 z.2.2.v33
theorem g36:GbOk P w K mg base G36:=gF z (g35 z) 35 z.2.2.v34
theorem g37:GbOk P w K mg base G37:=gF z (g36 z) 36 z.2.2.v35
end
theorem fin {K} (X:K.In h) (hN:h.Ns mainGlobals mg) (hfa:mg "law"=some (.ref fa)) (T:Tx K):
  ∃fd:FuncData,(∀ (s:Shared) (v:Value),BindsTo s fd ⟨[v],[]⟩ [("script",v)])/\∀base:Heap,K.In base->base.Ns mainGlobals mg->FnOk P w K mg base CX0 38 fa fd ["script"] (spL K):=
 Eu 60 37 X hN hfa zJ BQ T.v36 (λbase KB hB=>g37 ⟨KB,hB,T⟩) Il
end K20
open PySem PySem.W PyProof.Rows
set_option maxRecDepth 100000 in
set_option maxHeartbeats 0 in
theorem PySem.Challenge.cw_pocketmill_k39_numbers_there_and_back_holds : PySem.Challenge.rw_pocketmill_k39_numbers_there_and_back.Holds := by
  refine holds_law (by kernel_rfl) fun said=>?_
  refine holds_open (q:=K20.Q) (loose:=[]) (Xt:=K20.XT) (XP:=XL K20.Q []) (Yf:=Hook.obs (kHook K20.KK K20.adr K20.adr_ok)) (Ya:=Hook.val (kHook K20.KK K20.adr K20.adr_ok)) (YP:=Hook.says (kHook K20.KK K20.adr K20.adr_ok)) (N:=K20.NN) K20.t_left (Hook.of _) (Hook.keeps _) (fun s e=>xl_of s (Bool.and_eq_true_iff.mp e).1) XL.keeps (by rfl) (by rfl) (by rfl) (fun s e=>recFacts_of (Bool.and_eq_true_iff.mp e).2) (by rfl) (by first | assumption | decide +kernel) (by decide +kernel) ⟨rfl,rfl,rfl,rfl,rfl,by decide +kernel⟩ ?hw ?hc
  case hw=>w_witness2
  case hc =>
  refine L2.walkL (l:=PySem.Challenge.rw_pocketmill_k39_numbers_there_and_back) (k:=38) rfl rfl ⟨rfl,by decide,by decide⟩ (fun w h ρ=>PySem.W.kIn_of ρ) ?F
  case F =>
  intro w mg fa h KX G hmg
  exact K20.fin KX G hmg (K20.tx w.params)
#print axioms PySem.Challenge.cw_pocketmill_k39_numbers_there_and_back_holds
