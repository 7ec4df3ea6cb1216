import PyProof.Rows.All
import Wide.All
import OpenK.AllK
import Wide.FinOn
import Lean
import PyProof.EqAt
import PyProof.EqKinds
import PyProof.TupleCall
import PySem.Challenge.RW_pocketmill_k41_counting_refused
set_option compiler.extract_closed false
set_option genSizeOf false
set_option bootstrap.genMatcherCode false
set_option Elab.async false
set_option linter.all false
set_option maxRecDepth 100000
open List (length_map set_cons_succ set_cons_zero size_toArray getElem?_map getElem?_eq_getElem mem_cons_self mem_cons_of_mem mem_append_right length_append mem_of_getElem? length_range getElem?_append_left mem_singleton length_cons mem_append mem_cons mem_append_left)
open Option (map_some)
open PySem.W (nsIn findIn Frag)
open Bool (and_eq_true)
open Nat (lt_of_lt_of_le le_refl lt_of_le_of_lt)
namespace L2
open PySem PySem.Spec PyProof.Rows
abbrev Key:=Sum Int Str
def keyIs:Key->Value->Bool
 |.inl k,v=>Value.isInt k v
 |.inr x,v=>Value.isStrOf x v
def Kw (w:World):Key->Int
 |.inl k=>hashInt k
 |.inr x=>hashStr w x
theorem keyIs_shape:∀ {k:Key} {v:Value},keyIs k v=true->(∃i t,k=Sum.inl i/\v=Value.int i t)\/(∃x t,k=Sum.inr x/\v=Value.str x t)
 |.inl i,v,h=>by
  obtain⟨t,e⟩:=Value.isInt_shape (k:=i) (v:=v) h;exact .inl ⟨i,t,rfl,e⟩
 |.inr x,v,h=>by
  obtain⟨t,e⟩:=Value.isStrOf_shape (x:=x) (v:=v) h;exact .inr ⟨x,t,rfl,e⟩
theorem vi (i:Int) (t:Tok):keyIs (.inl i) (.int i t)=true:=by simp[keyIs,Value.isInt]
theorem vj (x:Str) (t:Tok):keyIs (.inr x) (.str x t)=true:=by simp[keyIs,Value.isStrOf]
theorem DX (a b:Int):decide ((Sum.inl a:Key)=Sum.inl b)=(a==b):=by grind
theorem DY (a b:Str):decide ((Sum.inr a:Key)=Sum.inr b)=decide (a=b):=by simp
theorem DZ (a:Int) (b:Str):decide ((Sum.inl a:Key)=Sum.inr b)=false:=decide_eq_false (λq=>nomatch q)
theorem D0 (a:Str) (b:Int):decide ((Sum.inr a:Key)=Sum.inl b)=false:=decide_eq_false (λq=>nomatch q)
noncomputable def bh (prog:Program) (w:World):PySem.KeyKind prog w Key where
 is:=keyIs
 hash:=Kw w
 inj:=λv a b ha hb=>by
  rcases keyIs_shape ha with⟨i,t,rfl,rfl⟩|⟨x,t,rfl,rfl⟩
  ·rcases keyIs_shape hb with⟨j,u,rfl,e⟩|⟨y,u,rfl,e⟩
   ·injection e with e1 _;rw[e1]
   ·exact nomatch e
  ·rcases keyIs_shape hb with⟨j,u,rfl,e⟩|⟨y,u,rfl,e⟩
   ·exact nomatch e
   ·injection e with e1 _;rw[e1]
 byValue:=λk v h=>by
  rcases keyIs_shape h with⟨i,t,rfl,rfl⟩|⟨x,t,rfl,rfl⟩<;>rfl
 pyHash:=λhv h=>by
  rcases keyIs_shape hv with⟨i,t,rfl,rfl⟩|⟨x,t,rfl,rfl⟩
  ·exact wpAny_pyHash_int h
  ·exact wpAny_pyHash_str h
 eqBool:=λhu hv h=>by
  rcases keyIs_shape hu with⟨i,t,rfl,rfl⟩|⟨x,t,rfl,rfl⟩
  ·rcases keyIs_shape hv with⟨j,u,rfl,rfl⟩|⟨y,u,rfl,rfl⟩
   ·rw[DX]at h;exact wpAny_eqBool_int h
   ·rw[DZ]at h;exact SeqAt.EqAt.int_str i t y u _ _ _ _ h
  ·rcases keyIs_shape hv with⟨j,u,rfl,rfl⟩|⟨y,u,rfl,rfl⟩
   ·rw[D0]at h;exact SeqAt.EqAt.str_int x t j u _ _ _ _ h
   ·rw[DY]at h;exact wpAny_eqBool_str h
 «strs»:=λk x t v h=>by
  rcases keyIs_shape h with⟨i,u,rfl,e⟩|⟨y,u,rfl,e⟩
  ·exact nomatch e
  ·injection e with e1 _;subst e1;cases v<;>rfl
theorem pZ (prog:Program) (w:World) (i:Int) (t:Tok):(bh prog w).is (.inl i) (.int i t)=true:=vi i t
theorem p8 (prog:Program) (w:World) (x:Str) (t:Tok):(bh prog w).is (.inr x) (.str x t)=true:=vj x t
inductive V where
 |non|bl (b:Bool)|int (i:Int)|str (x:Str)|byt (b:Array UInt8)|flt (b:UInt64)|ref (a:Addr)|ty (n:String)
 deriving DecidableEq
def RelV:V->Value->Prop
 |.non,u=>u=Value.none
 |.bl b,u=>u=Value.bool b
 |.int i,u=>∃t,u=Value.int i t
 |.str x,u=>∃t,u=Value.str x t
 |.byt b,u=>∃t,u=Value.bytes b t
 |.flt b,u=>∃t,u=Value.float b t
 |.ref a,u=>u=Value.ref a
 |.ty n,u=>u=Value.type n
abbrev Vals:List V->List Value->Prop:=Paired RelV
theorem Vals.length (r:Vals xs us):xs.length=us.length:=Paired.length r
theorem Vals.get:∀ {xs:List V} {us:List Value} {i:Nat} {x:V},Vals xs us->xs[i]?=some x->∃u,us[i]?=some u/\RelV x u
 |_,_,_,_,.nil,e=>by simp at e
 |_,_,0,_,.cons r _,e=>by simp at e;subst e;exact⟨_,rfl,r⟩
 |_,_,i+1,x,.cons _ t,e=>by
  obtain⟨u,h1,h2⟩:=Vals.get (i:=i) (x:=x) t (by simpa using e);exact⟨u,by simpa using h1,h2⟩
theorem Vals.append:∀ {xs ys:List V} {us ws:List Value},Vals xs us->Vals ys ws->Vals (xs++ys) (us++ws)
 |_,_,_,_,.nil,s=>s
 |_,_,_,_,.cons r t,s=>.cons r (Vals.append t s)
theorem Vals.take:∀ {xs:List V} {us:List Value} (n:Nat),Vals xs us->Vals (xs.take n) (us.take n)
 |_,_,0,_=>.nil
 |_,_,_+1,.nil=>.nil
 |_,_,n+1,.cons r t=>.cons r (Vals.take n t)
theorem Vals.drop:∀ {xs:List V} {us:List Value} (n:Nat),Vals xs us->Vals (xs.drop n) (us.drop n)
 |_,_,0,r=>r
 |_,_,_+1,.nil=>.nil
 |_,_,n+1,.cons _ t=>Vals.drop n t
def RelO:Option V->Option Value->Prop
 |some v,some u=>RelV v u
 |none,none=>True
 |_,_=>False
def KV {κ:Type}:List (κ×V)->List (κ×Value)->Prop:=Paired λ(p:κ×V) (q:κ×Value)=>p.1=q.1/\RelV p.2 q.2
def kV:Key->V
 |.inl i=>.int i
 |.inr x=>.str x
inductive HO where
 |lst (xs:List V)
 |tup (xs:List V)
 |dK (kvs:List (Key×V))|dT (kvs:List (List Key×V))
 |set (S:Int->Bool) (n:Nat)
 |ins (C dx:Addr) (fs:List (Str×V))
 |own (x:Addr)
 |xd (fs:List (Str×V))
 |met (f x:Addr)
 |rng (lo hi:Int)
 |frz (o:Obj) (u:HO)
 |tbl (ps:Array Value)
 |ext (φ:Heap->Prop)
abbrev Hp:=Addr->Option HO
def upd (H:Hp) (a:Addr) (o:HO):Hp:=λb=>if b=a then some o else H b
theorem ai:upd H a o a=some o:=by unfold upd;rw[if_pos rfl]
theorem ah (h:b≠a):upd H a o b=H b:=by unfold upd;rw[if_neg h]
theorem AI:upd (upd H a o) a u=upd H a u:=by
 funext b;unfold upd;split<;>rfl
theorem av {H:Hp} (h:H a=some o) (h':H b=none):a≠b:=by
 intro e;subst e;rw[h]at h';cases h'
section
variable (P:Program) (w:World)
noncomputable def ObjOk (H:Hp) (h:Heap) (a:Addr):HO->Prop
 |.lst xs=>xs.length<=sizeLine/\∃ (its:List Value) (n:Nat),Vals xs its/\h.get? a=some {cls:=.type "list",data:=.seq its.toArray n}
 |.tup xs=>xs.length<=sizeLine/\∃its:List Value,Vals xs its/\IsTup h a its.toArray
 |.dK kvs=>kvs.length<=sizeLine/\(a==sysModules)=false/\∃vs,KV kvs vs/\h.DictOf (bh P w) a vs
 |.dT kvs=>kvs.length<=sizeLine/\(a==sysModules)=false/\∃xs:List (List Key×Addr×Value),
  Paired (λ(p:List Key×V) (q:List Key×Addr×Value)=>p.1=q.1/\H q.2.1=some (.tup (p.1.map kV))/\RelV p.2 q.2.2) kvs xs/\
  ∃o es ep,h.get? a=some o/\o.ExactDict/\o.data=.dict es ep/\es.toList=xs.map (entryOfKey (tupleKind (bh P w)))/\(xs.map (·.1)).Nodup
 |.set S n=>h.SetOf (intKind P w) a S n
 |.ins C dx fs=>H dx=some (.own a)/\fs.length<=1000/\dx≠a/\h.get? a=some (PySem.W.instObj C dx)/\
  ∃mA,h.Ns1 dx mA/\(∀f,RelO (fs.lookup f) (mA f))/\PySem.Within mA (fs.map (·.1))
 |.own _=>∃o,h.get? a=some o
 |.xd fs=>∃mA,h.Ns1 a mA/\∀f,RelO (fs.lookup f) (mA f)
 |.rng lo hi=>∃t u v,h.get? a=some {cls:=.type "range",data:=.fields #[.int lo t,.int hi u,.int 1 v]}
 |.frz o u=>h.get? a=some o/\ObjOk H h a u
 |.tbl ps=>h.get? a=some {cls:=.none,data:=.fields ps}
 |.met f x=>h.get? a=some (PySem.W.methodObj (.ref f) (.ref x))
 |.ext φ=>φ h/\(∃o,h.get? a=some o)/\∀h1 h2:Heap,φ h1->(∀o,h1.get? a=some o->h2.get? a=some o)->φ h2
def HOk (H:Hp) (h:Heap):Prop:=∀a o,H a=some o->ObjOk P w H h a o
end
section
variable {P:Program} {w:World} {H H':Hp} {h h':Heap} {a:Addr} {o:HO}
theorem ObjOk.lt (x:ObjOk P w H h a o):a<h.objs.size:=by
 cases o with
 |lst xs=>obtain⟨_,_,_,_,e⟩:=x;exact Heap.lt_size e
 |tup xs=>obtain⟨_,_,_,p⟩:=x;exact p.lt
 |dK kvs=>obtain⟨_,_,_,_,o,_,_,e,_⟩:=x;exact Heap.lt_size e
 |dT kvs=>obtain⟨_,_,_,_,o,_,_,e,_⟩:=x;exact Heap.lt_size e
 |set S n=>obtain⟨o,_,_,_,e,_⟩:=x;exact Heap.lt_size e
 |ins C dx fs=>obtain⟨_,_,_,e,_⟩:=x;exact Heap.lt_size e
 |own y=>obtain⟨_,e⟩:=x;exact Heap.lt_size e
 |xd fs=>obtain⟨_,⟨_,_,_,e,_⟩,_⟩:=x;exact Heap.lt_size e
 |rng lo hi=>obtain⟨_,_,_,e⟩:=x;exact Heap.lt_size e
 |frz ob u=>obtain⟨e,_⟩:=x;exact Heap.lt_size e
 |tbl ps=>exact Heap.lt_size (show h.get? a=some _ from x)
 |met f y=>exact Heap.lt_size (show h.get? a=some _ from x)
 |ext φ=>obtain⟨_,⟨_,e⟩,_⟩:=x;exact Heap.lt_size e
theorem Paired.mapP:∀ {l₁:List α} {l₂:List β},Paired F l₁ l₂->(∀a b,F a b->G a b)->Paired G l₁ l₂
 |_,_,.nil,_=>.nil
 |_,_,.cons r t,f=>.cons (f _ _ r) (Paired.mapP t f)
theorem ObjOk.stay (x:ObjOk P w H h a o) (k:∀b u,(b=a\/H b=some (.own a))->h.get? b=some u->h'.get? b=some u)
  (ho:∀b,H b=some (.own a)->H' b=some (.own a)) (ht:∀b xs,H b=some (.tup xs)->H' b=some (.tup xs)):ObjOk P w H' h' a o:=by
 induction o with
 |lst xs=>obtain⟨z,its,n,r,e⟩:=x;exact⟨z,its,n,r,k _ _ (.inl rfl) e⟩
 |tup xs=>obtain⟨z,its,r,ob,e,c⟩:=x;exact⟨z,its,r,ob,k _ _ (.inl rfl) e,c⟩
 |dK kvs=>obtain⟨z,y,vs,r,ob,es,ep,e,c⟩:=x;exact⟨z,y,vs,r,ob,es,ep,k _ _ (.inl rfl) e,c⟩
 |dT kvs=>
  obtain⟨z,y,xs,r,ob,es,ep,e,c⟩:=x;exact⟨z,y,xs,Paired.mapP r λp q z=>⟨z.1,ht _ _ z.2.1,z.2.2⟩,ob,es,ep,k _ _ (.inl rfl) e,c⟩
 |set S n=>obtain⟨ob,es,ep,t,e,c⟩:=x;exact⟨ob,es,ep,t,k _ _ (.inl rfl) e,c⟩
 |ins C dx fs=>
  obtain⟨d,z,ne,e,mA,⟨od,es,ep,e2,c⟩,r⟩:=x;exact⟨ho _ d,z,ne,k _ _ (.inl rfl) e,mA,⟨od,es,ep,k _ _ (.inr d) e2,c⟩,r⟩
 |own y=>obtain⟨ob,e⟩:=x;exact⟨ob,k _ _ (.inl rfl) e⟩
 |xd fs=>obtain⟨mA,⟨od,es,ep,e,c⟩,r⟩:=x;exact⟨mA,⟨od,es,ep,k _ _ (.inl rfl) e,c⟩,r⟩
 |rng lo hi=>obtain⟨t,u,v,e⟩:=x;exact⟨t,u,v,k _ _ (.inl rfl) e⟩
 |frz ob u ih=>obtain⟨e,q⟩:=x;exact⟨k _ _ (.inl rfl) e,ih q⟩
 |tbl ps=>
  have e:h.get? a=some {cls:=.none,data:=.fields ps}:=x;show h'.get? a=some {cls:=.none,data:=.fields ps};exact k a _ (.inl rfl) e
 |met f y=>
  have e:h.get? a=some (PySem.W.methodObj (.ref f) (.ref y)):=x;show h'.get? a=some (PySem.W.methodObj (.ref f) (.ref y));exact k a _ (.inl rfl) e
 |ext φ=>obtain⟨p,⟨o,e⟩,st⟩:=x;exact⟨st _ _ p λo q=>k _ _ (.inl rfl) q,⟨o,k _ _ (.inl rfl) e⟩,st⟩
theorem HOk.lt (x:HOk P w H h) (e:H a=some o):a<h.objs.size:=(x a o e).lt
theorem HOk.fresh (x:HOk P w H h) (e:h.objs.size<=a):H a=none:=by
 cases q:H a with
 |none=>rfl
 |some u=>exact absurd (lt_of_lt_of_le (x.lt q) e) (Nat.lt_irrefl _)
theorem HOk.kept (x:HOk P w H h) (k:∀b u,h.get? b=some u->h'.get? b=some u):HOk P w H h':=λa o e=>
 (x a o e).stay (λb u _ q=>k b u q) (λ_ q=>q) λ_ _ q=>q
theorem HOk.laid (x:HOk P w H h) (k:∀b u,h.get? b=some u->h'.get? b=some u) (hp:h.objs.size<=a) (new:ObjOk P w (upd H a o) h' a o):HOk P w (upd H a o) h':=λb u e=>by
 have hn:=x.fresh hp;by_cases hb:b=a
 ·subst hb;rw[ai]at e;cases e;exact new
 ·rw[ah hb]at e;exact(x b u e).stay (λc v _ q=>k c v q) (λc q=>by rw[ah (av q hn)];exact q) λc xs q=>by rw[ah (av q hn)];exact q
end
def Rd (H:Hp) (a:Addr) (u:HO):Prop:=H a=some u\/∃o,H a=some (.frz o u)
theorem Rd.ok (r:Rd H a u) (x:HOk P w H h):ObjOk P w H h a u:=by
 rcases r with r|⟨o,r⟩
 ·exact x a u r
 ·obtain⟨_,q⟩:=x a _ r;exact q
def Mut:Option HO->Prop
 |some (.lst _)=>True
 |some (.dK _)=>True
 |some (.dT _)=>True
 |some (.set _ _)=>True
 |some (.ins _ _ _)=>True
 |some (.ext _)=>True
 |_=>False
section
variable {P:Program} {w:World} {H:Hp} {h h':Heap} {x e:Addr} {o':HO}
theorem HOk.write (ok:HOk P w H h) (mu:Mut (H x)) (he:e=x\/H e=some (.own x)) (k:∀b u,b≠e->h.get? b=some u->h'.get? b=some u) (heo:∃u,h'.get? e=some u)
  (new:ObjOk P w (upd H x o') h' x o'):HOk P w (upd H x o') h':=λb u q=>by
 have nown:∀c y,H c=some (.own y)->c≠x:=λc y r z=>by subst z;rw[r]at mu;exact mu
 have ntup:∀c xs,H c=some (.tup xs)->c≠x:=λc xs r z=>by subst z;rw[r]at mu;exact mu
 by_cases hb:b=x
 ·subst hb;rw[ai]at q;cases q;exact new
 ·rw[ah hb]at q;by_cases hbe:b=e
  ·have q':H b=some (.own x):=by
    rcases he with z|z
    ·exact absurd (hbe.trans z) hb
    ·rw[hbe];exact z
   rw[q]at q';cases q';obtain⟨v,hv⟩:=heo;exact⟨v,by rw[hbe];exact hv⟩
  ·refine(ok b u q).stay (λc v hc r=>k c v ?_ r) (λc r=>by rw[ah (nown c b r)];exact r) λc xs r=>by rw[ah (ntup c xs r)];exact r
   rcases hc with rfl|hc
   ·exact hbe
   ·rintro rfl;rcases he with z|z
    ·exact nown c b hc z
    ·rw[hc]at z;cases z;exact hb rfl
end
structure Un (fs ex:List Addr) (H H':Hp) (h h':Heap):Prop where
 keep:∀b o,h.get? b=some o->H b=none->b ∉ fs->b ∉ ex->h'.get? b=some o
 slot:∀b o,h.get? b=some o->H b=none->b∈fs->b ∉ ex->∃sl,h'.get? b=some {o with slots:=sl}
 free:∀b o,h.get? b=some o->H b=none->b ∉ ex->H' b=none
 there:∀b o,h.get? b=some o->b ∉ ex->∃o',h'.get? b=some o'
 tups:∀b xs,H b=some (.tup xs)->H' b=some (.tup xs)
 frzs:∀b o u,H b=some (.frz o u)->H' b=some (.frz o u)
 tbls:∀b ps,H b=some (.tbl ps)->∃more,H' b=some (.tbl (ps++more))
section
variable {fs fs' ex ex':List Addr} {H H1 H2:Hp} {h h1 h2 h':Heap} {a x e:Addr} {o:HO}
theorem Un.any (u:Un fs ex H H1 h h1) (q:h.get? b=some ob) (n:H b=none) (hx:b ∉ ex):∃sl,h1.get? b=some {ob with slots:=sl}:=by
 by_cases hb:b∈fs
 ·exact u.slot b ob q n hb hx
 ·exact⟨ob.slots,u.keep b ob q n hb hx⟩
theorem Un.kept (k:∀b u,h.get? b=some u->h'.get? b=some u):Un fs ex H H h h':=
 ⟨λb ob q _ _ _=>k b ob q,λb ob q _ _ _=>⟨ob.slots,k b ob q⟩,λ_ _ _ n _=>n,λb ob q _=>⟨ob,k b ob q⟩,λ_ _ q=>q,λ_ _ _ q=>q,λ_ ps q=>⟨#[],by rw[q];simp⟩⟩
theorem Un.refl:Un fs ex H H h h:=Un.kept λ_ _ q=>q
theorem Un.laid (k:∀b u,h.get? b=some u->h'.get? b=some u) (hp:h.objs.size<=a) (hn:H a=none):Un fs ex H (upd H a o) h h' where
 keep:=λb u q _ _ _=>k b u q
 slot:=λb u q _ _ _=>⟨u.slots,k b u q⟩
 free:=λb u q n _=>by rw[ah (Nat.ne_of_lt (lt_of_lt_of_le (Heap.lt_size q) hp))];exact n
 there:=λb u q _=>⟨u,k b u q⟩
 tups:=λb xs q=>by rw[ah (av q hn)];exact q
 frzs:=λb u xs q=>by rw[ah (av q hn)];exact q
 tbls:=λb ps q=>⟨#[],by rw[ah (av q hn),q];simp⟩
theorem Un.write (mu:Mut (H x)) (he:e=x\/H e=some (.own x)) (k:∀b u,b≠e->h.get? b=some u->h'.get? b=some u) (heo:∃u,h'.get? e=some u):Un fs ex H (upd H x o) h h':=by
 have hx:∀b,H b=none->b≠x:=λb n z=>by subst z;rw[n]at mu;exact mu
 have hb:∀b,H b=none->b≠e:=λb n z=>by
  subst z;rcases he with r|r
  ·exact hx b n r
  ·rw[n]at r;cases r
 have hm:∀b u,H b=some u->¬Mut (some u)->b≠x:=λb u q nm z=>by subst z;rw[q]at mu;exact nm mu
 refine⟨λb u q n _ _=>k b u (hb b n) q,λb u q n _ _=>⟨u.slots,k b u (hb b n) q⟩,λb u q n _=>by rw[ah (hx b n)];exact n,λb u q _=>?_,
  λb xs q=>by rw[ah (hm b _ q λz=>z)];exact q,λb u xs q=>by rw[ah (hm b _ q λz=>z)];exact q,λb ps q=>⟨#[],by rw[ah (hm b _ q λz=>z),q];simp⟩⟩
 grind
end
def trk (h:Heap) (H:Hp):List Addr:=(List.range h.objs.size).filter λa=>(H a).isSome
def oA (h:Heap) (H:Hp):Heap:=PySem.W.hideAll h (trk h H)
theorem vk (h:Heap) (H:Hp):(oA h H).objs.size=h.objs.size:=PySem.W.hideAll_size _ _
theorem wx (e:h.get? b=some o) (n:H b=none):(oA h H).get? b=some o:=
 PySem.W.hideAll_get _ e λhm=>by
  have q:(H b).isSome=true:=(List.mem_filter.mp hm).2;rw[n]at q;simp at q
theorem AJ (e:(oA h H).get? b=some o):h.get? b=some o/\H b=none:=by
 have e':h.get? b=some o:=PySem.W.of_hideAll (trk h H) e;refine⟨e',?_⟩;cases q:H b with
 |none=>rfl
 |some x=>
  have hm:b∈trk h H:=List.mem_filter.mpr ⟨List.mem_range.mpr (Heap.lt_size e'),by simp[q]⟩;have z:(oA h H).get? b=none:=PySem.W.hideAll_none (trk h H) hm;rw[z]at e;cases e
def AK (g h:Heap) (L:Addr):List (Addr×Obj):=(List.range h.objs.size).filterMap λa=>if a=L\/(g.get? a).isSome=true then none else(h.get? a).map λo=>(a,o)
def rest (g h:Heap) (L d:Addr):List (Addr×Obj):=(AK g h L).filter λp=>decide (p.1≠d)
structure Mod (K:Frag) (mg:Str->Option Value) (base:Heap):Prop where
 kin:K.In base
 glob:base.Ns mainGlobals mg
 blt:∃mb,base.Ns builtinsNs mb/\∀x:Str,x≠"__name__" ->mb x=bootBuiltins x
 nolimit:base.NoLimit
structure Cx where
 prog:Program
 w:World
 K:Frag
 mg:Str->Option Value
 base:Heap
 A:Around
 N:List Str
 s₀:Shared
 H₀:Hp
 env:Env
 outer:List Env
 stack:List Env
 ex:List Addr
 fn:Str->Bool
 calm:Bool
 pn:List (Addr×Obj)
 xe:Value->Shared->Prop
def frs (l:List Env):List Addr:=l.filterMap (·.frame)
abbrev Cx.fs (X:Cx):List Addr:=frs X.outer
def Vis (sc:Scope) (x:Str):Prop:=sc.names.lookup x=some .local\/sc.names.lookup x=some .cell\/sc.names.lookup x=some .free
def Loc (sc:Scope) (x:Str):Prop:=sc.names.lookup x=some .local\/sc.names.lookup x=some .cell
def Kx (env:Env) (h:Heap) (m:Str->Option Value) (x:Str) (u:Value):Prop:=
 (env.kindOf x=some .local/\m x=some u)\/((env.kindOf x=some .cell\/env.kindOf x=some .free)/\∃c,env.cells.lookup x=some c/\h.IsCell c (some u))
structure Cx.Ok (X:Cx):Prop where
 mod:Mod X.K X.mg X.base
 kind:X.env.scope.kind=.function
 glob:X.env.globals=mainGlobals
 blt:X.env.builtins=builtinsNs
 above:X.s₀.heap.objs.size<=X.env.locals
 inj:∀x y c,X.env.cells.lookup x=some c->X.env.cells.lookup y=some c->x=y
 has:∀x,(X.env.kindOf x=some .cell\/X.env.kindOf x=some .free)->∃c,X.env.cells.lookup x=some c
 cab:∀x c,X.fn x=true->X.env.cells.lookup x=some c->X.s₀.heap.objs.size<=c
 hd:X.calm=true->X.A.handled=none
 frames:X.A.frames=some X.stack
 stk:X.stack=X.outer\/(X.stack=X.env::X.outer/\X.env.frame=some X.env.locals)
 exf:∀b∈X.ex,b≠X.env.locals/\∀x c,X.env.cells.lookup x=some c->c≠b
 bs:∀b o,X.base.get? b=some o->X.s₀.heap.get? b=some o/\X.H₀ b=none
 bsz:X.base.objs.size<=X.s₀.heap.objs.size
 noex:∀b o,X.base.get? b=some o->b ∉ X.ex
 exfs:∀b∈X.ex,b ∉ X.fs
 funs:X.s₀.heap.FunFrames X.base X.outer
 frf:∀b∈X.fs,X.H₀ b=none
structure Inv (X:Cx) (pins:List (Addr×Obj)) (σ:List (Option V)) (H:Hp) (s:Shared):Prop where
 ok:X.Ok
 os:s.os=X.s₀.os
 bare:AllBare s.gens
 base:Un X.fs X.ex X.H₀ H X.s₀.heap s.heap
 loc:∃m,s.heap.Ns X.env.locals m/\∀ (i:Nat) (x:Str) (v:V),X.N[i]?=some x->σ[i]?=some (some v)->Vis X.env.scope x->∃u,RelV v u/\Kx X.env s.heap m x u
 cell:∀x c,X.env.cells.lookup x=some c->∃v,s.heap.IsCell c v
 free:H X.env.locals=none
 freeC:∀x c,X.env.cells.lookup x=some c->H c=none
 pin:∀p∈X.pn++pins,s.heap.get? p.1=some p.2/\H p.1=none/\p.1≠X.env.locals/\p.1 ∉ X.fs/\∀v,p.2.data≠.cell v
 hok:HOk X.prog X.w H s.heap
 len:σ.length=X.N.length
section
variable {X:Cx} {pins:List (Addr×Obj)} {σ:List (Option V)} {H H':Hp} {s:Shared} {h':Heap}
theorem Cx.Ok.nofr (ok:X.Ok) (e:X.base.get? b=some o):b ∉ X.fs:=λhb=>by
 have:=(ok.funs.mem hb).1;grind
theorem Inv.bs (I:Inv X pins σ H s):∀b o,X.base.get? b=some o->s.heap.get? b=some o/\H b=none:=λb o e=>
 ⟨I.base.keep b o (I.ok.bs b o e).1 (I.ok.bs b o e).2 (I.ok.nofr e) (I.ok.noex b o e),I.base.free b o (I.ok.bs b o e).1 (I.ok.bs b o e).2 (I.ok.noex b o e)⟩
theorem Inv.bk (I:Inv X pins σ H s):∀b o,X.base.get? b=some o->s.heap.get? b=some o:=λb o e=>(I.bs b o e).1
theorem Inv.mod (I:Inv X pins σ H s):Mod X.K X.mg X.base:=I.ok.mod
theorem Inv.kIn (I:Inv X pins σ H s):X.K.In s.heap:=I.ok.mod.kin.keeps I.bk
theorem Inv.lt (I:Inv X pins σ H s):X.env.locals<s.heap.objs.size:=let⟨_,hn,_⟩:=I.loc;hn.lt
theorem Inv.sz (I:Inv X pins σ H s):X.s₀.heap.objs.size<=s.heap.objs.size:=Nat.le_trans I.ok.above (Nat.le_of_lt I.lt)
theorem Inv.nofs (I:Inv X pins σ H s) {a:Addr} (h:s.heap.objs.size<=a):a ∉ X.fs:=λhb=>by
 obtain⟨_,o,ho,_⟩:=I.ok.funs.mem hb;exact absurd (lt_of_lt_of_le (Heap.lt_size ho) (Nat.le_trans I.sz h)) (Nat.lt_irrefl _)
theorem Inv.cne (I:Inv X pins σ H s):∀x c,X.env.cells.lookup x=some c->c≠X.env.locals:=λx c e z=>by
 obtain⟨v,o,ho,hd⟩:=I.cell x c e;obtain⟨m,⟨o',es,ep,ho',hd',_⟩,_⟩:=I.loc;grind
theorem Inv.funs (I:Inv X pins σ H s):s.heap.FunFrames X.base X.outer:=by
 have all:∀ (l:List Env),(∀b∈frs l,b∈X.fs)->X.s₀.heap.FunFrames X.base l->s.heap.FunFrames X.base l:=by
  intro l;induction l with
  |nil=>intro _ _;trivial
  |cons env r ih=>
   intro hs hl;obtain⟨hk,⟨L,o,hf,hn,ho,hd⟩,hr⟩:=hl;have hL:L∈X.fs:=hs L (by unfold frs;rw[List.filterMap_cons,hf];exact mem_cons_self);obtain⟨sl,e⟩:=I.base.slot L o ho (I.ok.frf L hL) hL λz=>I.ok.exfs L z hL;exact⟨hk,⟨L,_,hf,hn,e,hd⟩,ih (λb hb=>hs b (by unfold frs;rw[List.filterMap_cons,hf];exact mem_cons_of_mem _ hb)) hr⟩
 exact all X.outer (λ_ hb=>hb) I.ok.funs
theorem Inv.stack (I:Inv X pins σ H s):s.heap.FunFrames X.base X.stack:=by
 rcases I.ok.stk with e|⟨e,hf⟩
 ·rw[e];exact I.funs
 ·rw[e];obtain⟨m,hn,_⟩:=I.loc;refine .cons (by rw[I.ok.kind];decide) hf hn ?_ I.funs;exact Heap.get?_none_of_le (Nat.le_trans I.ok.bsz I.ok.above)
theorem Inv.stkSub (I:Inv X pins σ H s):∀b∈frs X.stack,b∈X.env.locals::X.fs:=λb hb=>by
 rcases I.ok.stk with e|⟨e,hf⟩
 ·rw[e]at hb;exact mem_cons_of_mem _ hb
 ·rw[e]at hb;unfold frs at hb;rw[List.filterMap_cons,hf]at hb;exact hb
theorem Inv.stkFree (I:Inv X pins σ H s):∀b∈frs X.stack,H b=none:=λb hb=>by
 rcases mem_cons.mp (I.stkSub b hb)with e|hb
 ·rw[e];exact I.free
 ·obtain⟨_,o,ho,_⟩:=I.ok.funs.mem hb;exact I.base.free b o ho (I.ok.frf b hb) λz=>I.ok.exfs b z hb
theorem Inv.step {ch:List Addr} (I:Inv X pins σ H s) (hch:∀b∈ch,(b∈X.ex\/X.s₀.heap.objs.size<=b)/\b≠X.env.locals/\(∀x c,X.env.cells.lookup x=some c->c≠b)/\∀p∈X.pn++pins,p.1≠b) (keep:∀b o,b≠X.env.locals->b ∉ X.fs->b ∉ ch->s.heap.get? b=some o->H b=none->h'.get? b=some o) (slot:∀b o,b≠X.env.locals->b∈X.fs->b ∉ ch->s.heap.get? b=some o->H b=none->∃sl,h'.get? b=some {o with slots:=sl}) (free:∀b o,b ∉ ch->s.heap.get? b=some o->H b=none->H' b=none) (there:∀b o,b ∉ ch->s.heap.get? b=some o->∃o',h'.get? b=some o') (tups:∀b xs,H b=some (.tup xs)->H' b=some (.tup xs)) (frzs:∀b o u,H b=some (.frz o u)->H' b=some (.frz o u)) (tbls:∀b ps,H b=some (.tbl ps)->∃more,H' b=some (.tbl (ps++more))) (ns:∀m,s.heap.Ns X.env.locals m->h'.Ns X.env.locals m) (hok:HOk X.prog X.w H' h') (hg:AllBare g'):
  Inv X pins σ H' {s with heap:=h',gens:=g',drawn:=d',toks:=t'}:=by
 have neL:∀b o,X.s₀.heap.get? b=some o->b≠X.env.locals:=λb o e=>Nat.ne_of_lt (lt_of_lt_of_le (Heap.lt_size e) I.ok.above)
 have neC:∀b o,X.s₀.heap.get? b=some o->b ∉ X.ex->b ∉ ch:=λb o e hx hb=>by
  rcases(hch b hb).1 with z|z
  ·exact hx z
  ·exact absurd (lt_of_lt_of_le (Heap.lt_size e) z) (Nat.lt_irrefl _)
 have cellK:∀x c,X.env.cells.lookup x=some c->∀v,s.heap.IsCell c v->h'.IsCell c v:=λx c e v ⟨o,ho,hd⟩=>by
  have nch:c ∉ ch:=λz=>(hch c z).2.2.1 x c e rfl;by_cases hc:c∈X.fs
  ·obtain⟨sl,q⟩:=slot c o (I.cne x c e) hc nch ho (I.freeC x c e);exact⟨_,q,hd⟩
  ·exact⟨o,keep c o (I.cne x c e) hc nch ho (I.freeC x c e),hd⟩
 refine⟨I.ok,I.os,hg,⟨λb o e n hb hx=>?_,λb o e n hb hx=>?_,λb o e n hx=>?_,λb o e hx=>?_,λb xs e=>tups b xs (I.base.tups b xs e),λb o xs e=>frzs b o xs (I.base.frzs b o xs e),λb ps e=>?_⟩,?_,λx c e=>?_,?_,λx c e=>?_,λp hp=>?_,hok,I.len⟩
 ·exact keep b o (neL b o e) hb (neC b o e hx) (I.base.keep b o e n hb hx) (I.base.free b o e n hx)
 ·obtain⟨sl,e1⟩:=I.base.slot b o e n hb hx;obtain⟨sl',e2⟩:=slot b _ (neL b o e) hb (neC b o e hx) e1 (I.base.free b o e n hx);exact⟨sl',e2⟩
 ·obtain⟨o',e1⟩:=I.base.there b o e hx;exact free b o' (neC b o e hx) e1 (I.base.free b o e n hx)
 ·obtain⟨o',e1⟩:=I.base.there b o e hx;exact there b o' (neC b o e hx) e1
 ·obtain⟨m1,e1⟩:=I.base.tbls b ps e;obtain⟨m2,e2⟩:=tbls b _ e1;exact⟨m1++m2,by rw[e2,Array.append_assoc]⟩
 ·obtain⟨m,hn,hl⟩:=I.loc;refine⟨m,ns m hn,λi x v e1 e2 e3=>?_⟩;obtain⟨u,r,l⟩:=hl i x v e1 e2 e3;refine⟨u,r,?_⟩;rcases l with l|⟨k,c,e,z⟩
  ·exact .inl l
  ·exact .inr ⟨k,c,e,cellK x c e _ z⟩
 ·obtain⟨v,z⟩:=I.cell x c e;exact⟨v,cellK x c e v z⟩
 ·obtain⟨m,⟨o,_,_,ho,_⟩,_⟩:=I.loc;exact free _ o (λz=>(hch _ z).2.1 rfl) ho I.free
 ·obtain⟨v,o,ho,hd⟩:=I.cell x c e;exact free c o (λz=>(hch c z).2.2.1 x c e rfl) ho (I.freeC x c e)
 ·obtain⟨e,n,ne,nf,d⟩:=I.pin p hp;have nch:p.1 ∉ ch:=λz=>(hch p.1 z).2.2.2 p hp rfl;exact⟨keep p.1 p.2 ne nf nch e n,free p.1 p.2 nch e n,ne,nf,d⟩
theorem Inv.un (I:Inv X pins σ H s) (u:Un X.fs [] H H' s.heap h') (hok:HOk X.prog X.w H' h'):Inv X pins σ H' {s with heap:=h',toks:=t'}:=by
 obtain⟨m,⟨o,es,ep,ho,r⟩,_⟩:=id I.loc;obtain⟨sl,hL⟩:=u.any ho I.free (by simp);exact I.step (g':=s.gens) (d':=s.drawn) (ch:=[]) (λ_ z=>nomatch z) (λb o _ hb _ e n=>u.keep b o e n hb (by simp)) (λb o _ hb _ e n=>u.slot b o e n hb (by simp)) (λb o _ e n=>u.free b o e n (by simp)) (λb o _ e=>u.there b o e (by simp)) u.tups u.frzs u.tbls (λm' hm=>by
  obtain⟨o',es',ep',ho',r'⟩:=hm;rw[ho]at ho';cases ho';exact⟨_,es',ep',hL,r'⟩) hok I.bare
theorem Inv.call (I:Inv X pins σ H s) (u:Un (frs X.stack) ch H H' s.heap h') (hok:HOk X.prog X.w H' h') (hg:AllBare g') (hch:∀b∈ch,(b∈X.ex\/X.s₀.heap.objs.size<=b)/\b≠X.env.locals/\(∀x c,X.env.cells.lookup x=some c->c≠b)/\∀p∈X.pn++pins,p.1≠b):
  Inv X pins σ H' {s with heap:=h',gens:=g',drawn:=d',toks:=t'}:=by
 obtain⟨m,⟨o,es,ep,ho,r⟩,_⟩:=id I.loc
 obtain⟨sl,hL⟩:=u.any ho I.free λz=>(hch _ z).2.1 rfl
 exact I.step (ch:=ch) hch (λb o hL hb hc e n=>u.keep b o e n (λz=>(mem_cons.mp (I.stkSub b z)).elim hL hb) hc) (λb o _ _ hc e n=>u.any e n hc) (λb o hc e n=>u.free b o e n hc) (λb o hc e=>u.there b o e hc) u.tups u.frzs u.tbls (λm' hm=>by
  obtain⟨o',es',ep',ho',r'⟩:=hm;rw[ho]at ho';cases ho';exact⟨_,es',ep',hL,r'⟩) hok hg
theorem Inv.turned (I:Inv X pins σ H s) (k:∀b o,b≠it->s.heap.get? b=some o->h'.get? b=some o) (hn:H it=none) (hL:it≠X.env.locals) (h1:it∈X.ex\/X.s₀.heap.objs.size<=it) (h2:∀x c,X.env.cells.lookup x=some c->c≠it) (h3:∀p∈X.pn++pins,p.1≠it):Inv X pins σ H {s with heap:=h',toks:=t'}:=by
 have nit:∀b u,H b=some u->b≠it:=λb u e z=>by rw[z,hn]at e;cases e
 refine I.step (g':=s.gens) (d':=s.drawn) (ch:=[it]) (λb hb=>?_) (λb o _ _ hc e _=>k b o (λz=>hc (by simp[z])) e) (λb o _ _ hc e _=>⟨o.slots,k b o (λz=>hc (by simp[z])) e⟩) (λ_ _ _ _ n=>n)
  (λb o hc e=>⟨o,k b o (λz=>hc (by simp[z])) e⟩) (λ_ _ e=>e) (λ_ _ _ e=>e) (λb ps e=>⟨#[],by rw[e];simp⟩) (λm hm=>?_) (λb u e=>?_) I.bare
 ·have e:b=it:=by simpa using hb
  subst e;exact⟨h1,hL,h2,h3⟩
 ·obtain⟨o,es,ep,ho,r⟩:=hm;exact⟨o,es,ep,k _ o (Ne.symm hL) ho,r⟩
 ·refine(I.hok b u e).stay (λc v hc q=>k c v ?_ q) (λ_ q=>q) λ_ _ q=>q;rcases hc with z|z
  ·rw[z];exact nit b u e
  ·exact nit c _ z
theorem Inv.tok (I:Inv X pins σ H s) (t:Nat):Inv X pins σ H {s with toks:=t}:=I.un (h':=s.heap) (t':=t) Un.refl I.hok
theorem Inv.kept (I:Inv X pins σ H s) (k:∀b u,s.heap.get? b=some u->h'.get? b=some u):Inv X pins σ H {s with heap:=h',toks:=t'}:=I.un (Un.kept k) (I.hok.kept k)
theorem Inv.laid {a:Addr} (I:Inv X pins σ H s) (k:∀b u,s.heap.get? b=some u->h'.get? b=some u) (hp:s.heap.objs.size<=a) (new:ObjOk X.prog X.w (upd H a o) h' a o):
 Inv X pins σ (upd H a o) {s with heap:=h',toks:=t'}:=I.un (Un.laid k hp (I.hok.fresh hp)) (I.hok.laid k hp new)
theorem Inv.write (I:Inv X pins σ H s) (mu:Mut (H x)) (he:e=x\/H e=some (.own x)) (k:∀b u,b≠e->s.heap.get? b=some u->h'.get? b=some u) (heo:∃u,h'.get? e=some u) (new:ObjOk X.prog X.w (upd H x o) h' x o):Inv X pins σ (upd H x o) {s with heap:=h',toks:=t'}:=I.un (Un.write mu he k heo) (I.hok.write mu he k heo new)
theorem Inv.weak (I:Inv X pins σ H s) (hl:σ'.length=σ.length) (w:∀ (i:Nat) v,σ'[i]?=some (some v)->σ[i]?=some (some v)):Inv X pins σ' H s:=
 ⟨I.ok,I.os,I.bare,I.base,let⟨m,hn,hl'⟩:=I.loc;⟨m,hn,λi x v e1 e2 e3=>hl' i x v e1 (w i v e2) e3⟩,I.cell,I.free,I.freeC,I.pin,I.hok,hl.trans I.len⟩
theorem Inv.pins_of (I:Inv X pins σ H s) (h:∀p∈pins',s.heap.get? p.1=some p.2/\H p.1=none/\p.1≠X.env.locals/\p.1 ∉ X.fs/\∀v,p.2.data≠.cell v):Inv X pins' σ H s:=
 ⟨I.ok,I.os,I.bare,I.base,I.loc,I.cell,I.free,I.freeC,λp hp=>(mem_append.mp hp).elim (λz=>I.pin p (mem_append_left _ z)) (h p),I.hok,I.len⟩
theorem kL {N:List Str} (hN:N.Nodup) {i j:Nat} (a:N[i]?=some x) (b:N[j]?=some x):i=j:=by
 obtain⟨h1,e1⟩:=List.getElem?_eq_some_iff.mp a;obtain⟨h2,e2⟩:=List.getElem?_eq_some_iff.mp b;exact(List.getElem_inj hN).mp (e1.trans e2.symm)
theorem nB (I:Inv X pins σ H s) (hN:X.N.Nodup) (hi:X.N[i]?=some x) (hx:Loc X.env.scope x) (r:RelV v u) (h:∀s',Inv X pins (σ.set i (some v)) H s'->(∃a,Heap.SameBut a s.heap s'.heap/\(a=X.env.locals\/X.env.cells.lookup x=some a))->Q () s') (hf:X.fn x=true\/X.env.scope.names.lookup x=some .local:=by first|exact .inl rfl|exact .inr rfl|assumption):wpAny M A (storeName X.env x u) Q E s:=by
 obtain⟨m,hn,hl⟩:=id I.loc;have hcls:(X.env.scope.kind==.class||(X.env.scope.kind==.module&&X.env.locals !=X.env.globals))=false:=by rw[I.ok.kind];rfl
 have hiσ:i<σ.length:=by rw[I.len];exact(List.getElem?_eq_some_iff.mp hi).1
 have cne:=I.cne;have tracked:∀ {a:Addr} {h':Heap},(∃o,s.heap.get? a=some o/\H a=none)->Heap.SameBut a s.heap h'->HOk X.prog X.w H h':=λ{a h'} ha hs b ob e=>by
  obtain⟨_,_,hfree⟩:=ha;refine(I.hok b ob e).stay (λc w' hc q=>(hs.2 c ?_).trans q) (λ_ q=>q) λ_ _ q=>q;rintro rfl;rcases hc with rfl|hc
  ·rw[hfree]at e;cases e
  ·rw[hfree]at hc;cases hc
 rcases hx with hk|hk
 ·refine wpAny_storeName_local hk hn (λh' hn' hs=>?_) hcls;obtain⟨oL,_,_,hoL,_⟩:=id hn;refine h _ ⟨I.ok,I.os,I.bare,⟨λb o e n hb hx=>?_,λb o e n hb hx=>?_,I.base.free,λb o e hx=>?_,I.base.tups,I.base.frzs,I.base.tbls⟩,⟨_,hn',λj y v' e1 e2 e3=>?_⟩,λy c e=>?_,I.free,I.freeC,λp hp=>?_,tracked ⟨oL,hoL,I.free⟩ hs,by simpa using I.len⟩ ⟨_,hs,.inl rfl⟩
  ·exact(hs.2 b (Nat.ne_of_lt (lt_of_lt_of_le (Heap.lt_size e) I.ok.above))).trans (I.base.keep b o e n hb hx)
  ·obtain⟨sl,e1⟩:=I.base.slot b o e n hb hx;exact⟨sl,(hs.2 b (Nat.ne_of_lt (lt_of_lt_of_le (Heap.lt_size e) I.ok.above))).trans e1⟩
  ·obtain⟨o',e1⟩:=I.base.there b o e hx;exact⟨o',(hs.2 b (Nat.ne_of_lt (lt_of_lt_of_le (Heap.lt_size e) I.ok.above))).trans e1⟩
  ·by_cases hj:j=i
   ·subst hj;rw[hi]at e1;cases e1;rw[List.getElem?_set_self hiσ]at e2;cases e2;exact⟨u,r,.inl ⟨hk,by simp⟩⟩
   ·rw[List.getElem?_set_ne (Ne.symm hj)]at e2;obtain⟨u',r',q⟩:=hl j y v' e1 e2 e3;refine⟨u',r',?_⟩;rcases q with⟨k,e⟩|⟨k,c,e,z⟩
    ·refine .inl ⟨k,?_⟩;have:y≠x:=λe=>hj (kL hN e1 (e▸hi));simp[this,e]
    ·exact .inr ⟨k,c,e,z.sameBut hs (cne y c e)⟩
  ·obtain⟨w',z⟩:=I.cell y c e;exact⟨w',z.sameBut hs (cne y c e)⟩
  ·obtain⟨e,n,ne,nf,d⟩:=I.pin p hp;exact⟨(hs.2 p.1 ne).trans e,n,ne,nf,d⟩
 ·have hfn:X.fn x=true:=by
   rcases hf with z|z
   ·exact z
   ·rw[z]at hk;cases hk
  obtain⟨c,hc⟩:=I.ok.has x (.inl hk);obtain⟨w',z⟩:=I.cell x c hc;refine wpAny_storeName_cell I.ok.kind hk hc z (λh' hc' hs=>?_);obtain⟨oc,hoc,hocd⟩:=id z;refine h {s with heap:=h'} ⟨I.ok,I.os,I.bare,⟨λb o e n hb hx=>?_,λb o e n hb hx=>?_,I.base.free,λb o e hx=>?_,I.base.tups,I.base.frzs,I.base.tbls⟩,⟨m,hn.sameBut hs (Ne.symm (cne x c hc)),λj y v' e1 e2 e3=>?_⟩,λy c' e=>?_,I.free,I.freeC,λp hp=>?_,tracked ⟨oc,hoc,I.freeC x c hc⟩ hs,by simpa using I.len⟩ ⟨c,hs,.inr hc⟩
  ·exact(hs.2 b (Nat.ne_of_lt (lt_of_lt_of_le (Heap.lt_size e) (I.ok.cab x c hfn hc)))).trans (I.base.keep b o e n hb hx)
  ·obtain⟨sl,e1⟩:=I.base.slot b o e n hb hx;exact⟨sl,(hs.2 b (Nat.ne_of_lt (lt_of_lt_of_le (Heap.lt_size e) (I.ok.cab x c hfn hc)))).trans e1⟩
  ·obtain⟨o',e1⟩:=I.base.there b o e hx;exact⟨o',(hs.2 b (Nat.ne_of_lt (lt_of_lt_of_le (Heap.lt_size e) (I.ok.cab x c hfn hc)))).trans e1⟩
  ·by_cases hj:j=i
   ·subst hj;rw[hi]at e1;cases e1;rw[List.getElem?_set_self hiσ]at e2;cases e2;exact⟨u,r,.inr ⟨.inl hk,c,hc,hc'⟩⟩
   ·rw[List.getElem?_set_ne (Ne.symm hj)]at e2;obtain⟨u',r',q⟩:=hl j y v' e1 e2 e3;refine⟨u',r',?_⟩;rcases q with q|⟨k,c',e,z'⟩
    ·exact .inl q
    ·refine .inr ⟨k,c',e,z'.sameBut hs ?_⟩;rintro rfl;exact hj (kL hN e1 (I.ok.inj _ _ _ e hc▸hi))
  ·by_cases hcc:c'=c
   ·subst hcc;exact⟨_,hc'⟩
   ·obtain⟨w2,z2⟩:=I.cell y c' e;exact⟨w2,z2.sameBut hs hcc⟩
  ·obtain⟨e,n,ne,nf,d⟩:=I.pin p hp;refine⟨(hs.2 p.1 ?_).trans e,n,ne,nf,d⟩;intro q;rw[q,hoc]at e;have q':oc=p.2:=Option.some.inj e;exact d w' (by rw[<-q'];exact hocd)
theorem kM (I:Inv X pins σ H s) (hN:X.N.Nodup) (hi:X.N[i]?=some x) (hx:Loc X.env.scope x) (r:RelV v u) (h:∀s',Inv X pins (σ.set i (some v)) H s'->Q () s') (hf:X.fn x=true\/X.env.scope.names.lookup x=some .local:=by first|exact .inl rfl|exact .inr rfl|assumption):wpAny M A (storeName X.env x u) Q E s:=
 nB I hN hi hx r (λs' I' _=>h s' I') hf
theorem Inv.call' (I:Inv X pins σ H s) (ho:s'.os=s.os) (u:Un (frs X.stack) ch H H' s.heap s'.heap) (hok:HOk X.prog X.w H' s'.heap) (hg:AllBare s'.gens) (hch:∀b∈ch,(b∈X.ex\/X.s₀.heap.objs.size<=b)/\b≠X.env.locals/\(∀x c,X.env.cells.lookup x=some c->c≠b)/\∀p∈X.pn++pins,p.1≠b):Inv X pins σ H' s':=by
 obtain⟨h',g',d',t',o'⟩:=s';have e:o'=s.os:=ho;subst e;exact I.call (g':=g') (t':=t') (d':=d') u hok hg hch
end
abbrev XK:=Value->Option Addr->Hp->Prop
abbrev St:=List (Option V)
abbrev VK:=V->Hp->Prop
abbrev TE:=St->Hp->VK->Prop
abbrev TT:=St->Hp->(Bool->Hp->Prop)->Prop
abbrev TA:=St->Hp->(List V->Hp->Prop)->Prop
structure Ends where
 nx:St->Hp->Prop
 rt:VK
 bk:St->Hp->Prop:=λ_ _=>False
 ct:St->Hp->Prop:=λ_ _=>False
abbrev TS:=Ends->St->Hp->Prop
def EP (X:Cx) (pins:List (Addr×Obj)) (σ:St) (Q:VK) (u:Value) (s':Shared):Prop:=∃v H',Inv X pins σ H' s'/\RelV v u/\Q v H'
def TP (X:Cx) (pins:List (Addr×Obj)) (σ:St) (Q:Bool->Hp->Prop) (b:Bool) (s':Shared):Prop:=∃H',Inv X pins σ H' s'/\Q b H'
def AP (X:Cx) (pins:List (Addr×Obj)) (σ:St) (Q:List V->Hp->Prop) (us:List Value) (s':Shared):Prop:=∃vs H',Inv X pins σ H' s'/\Vals vs us/\Q vs H'
def SP (X:Cx) (pins:List (Addr×Obj)) (D:Ends) (f:Flow) (s':Shared):Prop:=
 match f with
 |.next=>∃σ' H',Inv X pins σ' H' s'/\D.nx σ' H'
 |.brk=>∃σ' H',Inv X pins σ' H' s'/\D.bk σ' H'
 |.cont=>∃σ' H',Inv X pins σ' H' s'/\D.ct σ' H'
 |.ret u=>∃v σ' H',Inv X pins σ' H' s'/\RelV v u/\D.rt v H'
def PE (X:Cx) (e:Expr) (t:TE):Prop:=
 ∀ (pins:List (Addr×Obj)) (s:Shared) (σ:St) (H:Hp) (Q:VK),Inv X pins σ H s->t σ H Q->wpAny (model X.prog X.w) X.A (eval e X.env) (EP X pins σ Q) X.xe s
def PT (X:Cx) (e:Expr) (t:TT):Prop:=
 ∀ (pins:List (Addr×Obj)) (s:Shared) (σ:St) (H:Hp) (Q:Bool->Hp->Prop),Inv X pins σ H s->t σ H Q->wpAny (model X.prog X.w) X.A (isTrue e X.env (eval e X.env)) (TP X pins σ Q) X.xe s
def PW (X:Cx) (e:Expr) (t:TT):Prop:=
 ∀ (whole:Sem Value) (pins:List (Addr×Obj)) (s:Shared) (σ:St) (H:Hp) (Q:Bool->Hp->Prop),Inv X pins σ H s->t σ H Q->wpAny (model X.prog X.w) X.A (isTrue e X.env whole) (TP X pins σ Q) X.xe s
theorem PW.pt (h:PW X e t):PT X e t:=h _
def PA (X:Cx) (es:List Expr) (t:TA):Prop:=
 ∀ (pos:Pos) (pins:List (Addr×Obj)) (s:Shared) (σ:St) (H:Hp) (Q:List V->Hp->Prop),Inv X pins σ H s->t σ H Q->wpAny (model X.prog X.w) X.A (spliced (backTo pos (starEach es X.env))) (AP X pins σ Q) X.xe s
def PS (X:Cx) (st:Stmt) (t:TS):Prop:=
 ∀ (pins:List (Addr×Obj)) (s:Shared) (σ:St) (H:Hp) (D:Ends),Inv X pins σ H s->t D σ H->wpAny (model X.prog X.w) X.A (exec st X.env) (SP X pins D) X.xe s
def PSs (X:Cx) (st:List Stmt) (t:TS):Prop:=
 ∀ (pins:List (Addr×Obj)) (s:Shared) (σ:St) (H:Hp) (D:Ends),Inv X pins σ H s->t D σ H->wpAny (model X.prog X.w) X.A (execs st X.env) (SP X pins D) X.xe s
theorem thn {Q Q':α->Shared->Prop} (h:wpAny M A t Q E s) (hQ:∀a s,Q a s->Q' a s):wpAny M A t Q' E s:=wpAny_mono h hQ λ_ _ x=>x
section
variable {X:Cx}
def Ky (i:Nat):TE:=λσ H Q=>∃v,σ[i]?=some (some v)/\Q v H
def tC (v:V):TE:=λ_ H Q=>Q v H
theorem bO {pos} (hN:X.N[i]?=some x) (hv:Vis X.env.scope x) (hd:(x==("__debug__":Str))=false:=by decide) (hcd:(x==("__classdict__":Str))=false:=by decide):PE X (.Name x pos) (Ky i):=by
 intro pins s σ H Q I h;obtain⟨v,e,h⟩:=h;obtain⟨m,hn,hl⟩:=I.loc;obtain⟨u,r,l⟩:=hl i x v hN e hv;have fin:EP X pins σ Q u s:=⟨v,H,I,r,h⟩;rcases l with⟨hk,hm⟩|⟨hk,c,hc,hcell⟩
 ·exact wpAny_Name (wpAny_loadName_local I.ok.kind hk hn hm fin) hd
 ·rcases hk with hk|hk
  ·exact wpAny_Name (wpAny_loadName_cell I.ok.kind hk hc hcell fin) hd
  ·exact wpAny_Name (wpAny_loadName_free I.ok.kind hk hc hcell fin hcd) hd
theorem pe_int:PE X (.Constant (.int i) j pos) (tC (.int i)):=λ_ _ _ H _ I h=>wpAny_Constant_int ⟨.int i,H,I.tok _,⟨_,rfl⟩,h⟩
theorem pe_bl:PE X (.Constant (.bool b) j pos) (tC (.bl b)):=λ_ _ _ H _ I h=>Constant_bool ⟨.bl b,H,I,rfl,h⟩
theorem pe_non:PE X (.Constant .none j pos) (tC .non):=λ_ _ _ H _ I h=>Constant_none ⟨.non,H,I,rfl,h⟩
theorem pe_str:PE X (.Constant (.str x) j pos) (tC (.str x)):=λ_ _ _ H _ I h=>Calls.Constant_str ⟨.str x,H,I.tok _,⟨_,rfl⟩,h⟩
def Gl (X:Cx) (x:Str):Prop:=X.env.kindOf x=some .globalImplicit
theorem gy {σ:St} (I:Inv X pins σ H s) (hg:Gl X x) (hm:X.mg x=some u) (h:Q u s) (hd:(x==("__debug__":Str))=false:=by decide):wpAny (model X.prog X.w) X.A (eval (.Name x pos) X.env) Q E s:=
 Calls.Name_function_global I.ok.kind hg (Calls.loadGlobal_global (by rw[I.ok.glob];exact I.mod.glob.keeps I.bk) hm h) hd
theorem hZ {E} {σ:St} {pos} (I:Inv X pins σ H s) (hg:Gl X x) (hm:X.mg x=none) (hv:bootBuiltins x=some u) (h:Q u s) (hn:x≠"__name__":=by decide) (hd:(x==("__debug__":Str))=false:=by decide):wpAny (model X.prog X.w) X.A (eval (.Name x pos) X.env) Q E s:=by
 obtain⟨mb,h1,h2⟩:=I.mod.blt;exact Calls.Name_function_global I.ok.kind hg (Calls.loadGlobal_builtin (by rw[I.ok.glob];exact I.mod.glob.keeps I.bk) hm (by rw[I.ok.blt];exact h1.keeps I.bk) ((h2 x hn).trans hv) h) hd
theorem tV (hg:Gl X x) (hm:X.mg x=some u) (r:RelV v u) (hd:(x==("__debug__":Str))=false:=by decide):PE X (.Name x pos) (tC v):=
 λ_ _ _ H _ I h=>gy I hg hm ⟨v,H,I,r,h⟩ hd
theorem tW {pos} (hg:Gl X x) (hm:X.mg x=none) (hv:bootBuiltins x=some u) (r:RelV v u) (hn:x≠"__name__":=by decide) (hd:(x==("__debug__":Str))=false:=by decide):PE X (.Name x pos) (tC v):=
 λ_ _ _ H _ I h=>hZ I hg hm hv ⟨v,H,I,r,h⟩ hn hd
variable {a b:Expr} {ta tb:TE} {pos:Pos}
def tB (t:TE):TT:=λσ H Q=>t σ H λx H1=>∃c,x=.bl c/\Q c H1
theorem D1 (h:PE X e t) (he:∀whole,isTrue e X.env whole=(do let v<-whole;standAt e.pos;holding [v] (truthy v)):=by intro _;rfl):PT X e (tB t):=by
 intro pins s σ H Q I hw;refine isTrue_plain (thn (h pins s σ H _ I hw) λv s1 ⟨x,H1,I1,r1,q1⟩=>?_) (he _);obtain⟨d,rfl,q⟩:=q1;cases r1;exact wpAny_truthy_bool ⟨H1,I1,q⟩
variable {tA tB':TT} {rest:List Expr}
def Kz (t u:TT):TT:=λσ H Q=>t σ H λc H1=>if c=true then u σ H1 Q else Q false H1
def tOr (t u:TT):TT:=λσ H Q=>t σ H λc H1=>if c=true then Q true H1 else u σ H1 Q
def KA (t:TT):TT:=λσ H Q=>t σ H λc H1=>Q (!c) H1
theorem pw_and1 (ha:PT X a tA):PW X (.BoolOp .And [a] pos) tA:=by
 intro wh pins s σ H Q I h;refine isTrue_and (thn (ha pins s σ H Q I h) λc s1 e=>?_);cases c with
 |true=>exact isTrue_and_nil e
 |false=>exact e
theorem pw_or1 (ha:PT X a tA):PW X (.BoolOp .Or [a] pos) tA:=by
 intro wh pins s σ H Q I h;refine isTrue_or (thn (ha pins s σ H Q I h) λc s1 e=>?_);cases c with
 |false=>exact isTrue_or_nil e
 |true=>exact e
theorem pw_and (ha:PT X a tA) (hb:PW X (.BoolOp .And (b::rest) pos) tB'):PW X (.BoolOp .And (a::b::rest) pos) (Kz tA tB'):=by
 intro wh pins s σ H Q I h;refine isTrue_and (thn (ha pins s σ H _ I h) λc s1 ⟨H1,I1,q1⟩=>?_);cases c with
 |true=>exact hb wh pins s1 σ H1 Q I1 q1
 |false=>exact⟨H1,I1,q1⟩
theorem pw_or (ha:PT X a tA) (hb:PW X (.BoolOp .Or (b::rest) pos) tB'):PW X (.BoolOp .Or (a::b::rest) pos) (tOr tA tB'):=by
 intro wh pins s σ H Q I h;refine isTrue_or (thn (ha pins s σ H _ I h) λc s1 ⟨H1,I1,q1⟩=>?_);cases c with
 |true=>exact⟨H1,I1,q1⟩
 |false=>exact hb wh pins s1 σ H1 Q I1 q1
theorem wy (ha:PT X a tA):PT X (.UnaryOp .Not a pos) (KA tA):=by
 intro pins s σ H Q I h;exact isTrue_not (ha pins s σ H (λc H1=>Q (!c) H1) I h)
def Hk (ta tb:TE):TE:=λσ H Q=>ta σ H λx H1=>∃c,x=.bl c/\if c=true then tb σ H1 Q else Q (.bl false) H1
def Hl (ta:TE):TE:=λσ H Q=>ta σ H λx H1=>∃c,x=.bl c/\Q (.bl (!c)) H1
theorem D2 (h:PE X a t):PE X (.BoolOp op [a] pos) t:=λpins s σ H Q I hw=>BoolOp_one (h pins s σ H Q I hw)
theorem D3 (ha:PE X a ta) (hb:PE X (.BoolOp .And (b::rest) pos) tb):PE X (.BoolOp .And (a::b::rest) pos) (Hk ta tb):=by
 intro pins s σ H Q I h;refine BoolOp_and (thn (ha pins s σ H _ I h) λv s1 ⟨x,H1,I1,r1,q1⟩=>?_);obtain⟨c,rfl,q1⟩:=q1;cases r1;refine wpAny_truthy_bool ?_;cases c with
 |true=>exact hb pins s1 σ H1 Q I1 q1
 |false=>exact⟨.bl false,H1,I1,rfl,q1⟩
theorem D4 (ha:PE X a ta):PE X (.UnaryOp .Not a pos) (Hl ta):=by
 intro pins s σ H Q I h;refine UnaryOp_ (thn (ha pins s σ H _ I h) λv s1 ⟨x,H1,I1,r1,q1⟩=>?_);obtain⟨c,rfl,q1⟩:=q1;cases r1;exact not_of (wpAny_truthy_bool ⟨.bl (!c),H1,I1,rfl,q1⟩)
def tIf (t:TT) (ta tb:TE):TE:=λσ H Q=>t σ H λc H1=>if c=true then ta σ H1 Q else tb σ H1 Q
theorem wz (hc:PT X c tA) (ha:PE X a ta) (hb:PE X b tb):PE X (.IfExp c a b pos) (tIf tA ta tb):=by
 intro pins s σ H Q I h;refine wpAny_IfExp (thn (hc pins s σ H _ I h) λd s1 ⟨H1,I1,q1⟩=>?_);cases d with
 |true=>exact ha pins s1 σ H1 Q I1 q1
 |false=>exact hb pins s1 σ H1 Q I1 q1
end
def SqL (K:Frag) (H:Hp) (a:Addr) (xs:List V):Prop:=
 Rd H a (.lst xs)\/
  ∃ (o:Obj) (its:Array Value) (n:Nat),K.lookup a=some o/\o.cls=.type "list"/\o.dict=none/\o.data=.seq its n/\its.size<=sizeLine/\Vals xs its.toList
def SqT (K:Frag) (H:Hp) (a:Addr) (xs:List V):Prop:=
 Rd H a (.tup xs)\/
  ∃ (o:Obj) (its:Array Value) (n:Nat),K.lookup a=some o/\o.cls=.type "tuple"/\o.data=.seq its n/\its.size<=sizeLine/\Vals xs its.toList
def KC:Value->Option V
 |.none=>some .non
 |.bool b=>some (.bl b)
 |.int i _=>some (.int i)
 |.str x _=>some (.str x)
 |.bytes b _=>some (.byt b)
 |.float b _=>some (.flt b)
 |.ref a=>some (.ref a)
 |.type n=>some (.ty n)
 |_=>none
theorem RelV.abs (r:RelV x u):KC u=some x:=by
 cases x with
 |non=>cases r;rfl
 |bl _=>cases r;rfl
 |int _=>obtain⟨t,rfl⟩:=r;rfl
 |str _=>obtain⟨t,rfl⟩:=r;rfl
 |byt _=>obtain⟨t,rfl⟩:=r;rfl
 |flt _=>obtain⟨t,rfl⟩:=r;rfl
 |ref _=>cases r;rfl
 |ty _=>cases r;rfl
theorem RelV.inj (r:RelV x u) (q:RelV y u):x=y:=Option.some.inj (r.abs.symm.trans q.abs)
theorem Vals.inj:∀ {xs ys:List V} {us:List Value},Vals xs us->Vals ys us->xs=ys
 |_,_,_,.nil,.nil=>rfl
 |_,_,_,.cons r t,.cons r' t'=>by rw[r.inj r',Vals.inj t t']
section
variable {X:Cx} {pins:List (Addr×Obj)} {σ:St} {H:Hp} {s:Shared} {a:Addr} {xs ys:List V}
theorem SqL.of {K} (h:H a=some (.lst xs)):SqL K H a xs:=.inl (.inl h)
theorem SqT.of {K} (h:H a=some (.tup xs)):SqT K H a xs:=.inl (.inl h)
theorem Inv.list (I:Inv X pins σ H s) (h:SqL X.K H a xs):∃its:List Value,Vals xs its/\PlainL s.heap a its.toArray/\xs.length<=sizeLine:=by
 rcases h with h|⟨o,its,n,hk,hc,hd,hs,hz,r⟩
 ·obtain⟨z,its,n,r,e⟩:=h.ok I.hok;exact⟨its,r,⟨_,n,e,rfl,rfl,rfl⟩,z⟩
 ·refine⟨its.toList,r,⟨o,n,I.kIn a o hk,hc,hd,by simpa using hs⟩,?_⟩;have e:=r.length;simp only[Array.length_toList]at e;omega
theorem Inv.tuple (I:Inv X pins σ H s) (h:SqT X.K H a xs):∃its:List Value,Vals xs its/\IsTup s.heap a its.toArray/\xs.length<=sizeLine:=by
 rcases h with h|⟨o,its,n,hk,hc,hs,hz,r⟩
 ·obtain⟨z,its,r,p⟩:=h.ok I.hok;exact⟨its,r,p,z⟩
 ·refine⟨its.toList,r,⟨o,I.kIn a o hk,hc,n,by simpa using hs⟩,?_⟩;have e:=r.length;simp only[Array.length_toList]at e;omega
theorem Inv.list_inj (I:Inv X pins σ H s) (h:SqL X.K H a xs) (h':SqL X.K H a ys):xs=ys:=by
 obtain⟨its,r,⟨o,n,e,_,_,d⟩,_⟩:=I.list h;obtain⟨its',r',⟨o',n',e',_,_,d'⟩,_⟩:=I.list h';rw[e]at e';cases e';rw[d]at d';injection d' with d1 _;have:its=its':=by simpa using congrArg Array.toList d1
 subst this;exact r.inj r'
theorem Inv.tuple_inj (I:Inv X pins σ H s) (h:SqT X.K H a xs) (h':SqT X.K H a ys):xs=ys:=by
 obtain⟨its,r,⟨o,e,_,n,d⟩,_⟩:=I.tuple h;obtain⟨its',r',⟨o',e',_,n',d'⟩,_⟩:=I.tuple h';rw[e]at e';cases e';rw[d]at d';injection d' with d1 _;have:its=its':=by simpa using congrArg Array.toList d1
 subst this;exact r.inj r'
end
abbrev Cx.wish (X:Cx) (E:Value->Shared->Prop):Cx:={X with xe:=E}
abbrev Cx.nox (X:Cx):Cx:=X.wish λ_ _=>False
theorem Cx.Ok.wish {X:Cx} (ok:X.Ok) (E:Value->Shared->Prop):(X.wish E).Ok:=
 ⟨ok.mod,ok.kind,ok.glob,ok.blt,ok.above,ok.inj,ok.has,ok.cab,ok.hd,ok.frames,ok.stk,ok.exf,ok.bs,ok.bsz,ok.noex,ok.exfs,ok.funs,ok.frf⟩
theorem Cx.Ok.unwish {X:Cx} (ok:(X.wish E).Ok):X.Ok:=
 ⟨ok.mod,ok.kind,ok.glob,ok.blt,ok.above,ok.inj,ok.has,ok.cab,ok.hd,ok.frames,ok.stk,ok.exf,ok.bs,ok.bsz,ok.noex,ok.exfs,ok.funs,ok.frf⟩
section
variable {X:Cx} {pins:List (Addr×Obj)} {σ:St} {H:Hp} {s:Shared} {E:Value->Shared->Prop}
theorem Inv.wish (I:Inv X pins σ H s) (E:Value->Shared->Prop):Inv (X.wish E) pins σ H s:=⟨I.ok.wish E,I.os,I.bare,I.base,I.loc,I.cell,I.free,I.freeC,I.pin,I.hok,I.len⟩
theorem Inv.unwish (I:Inv (X.wish E) pins σ H s):Inv X pins σ H s:=⟨I.ok.unwish,I.os,I.bare,I.base,I.loc,I.cell,I.free,I.freeC,I.pin,I.hok,I.len⟩
theorem SP.unwish {D} (h:SP (X.wish E) pins D f s'):SP X pins D f s':=by
 cases f with
 |next=>obtain⟨σ',H',I,q⟩:=h;exact⟨σ',H',I.unwish,q⟩
 |brk=>obtain⟨σ',H',I,q⟩:=h;exact⟨σ',H',I.unwish,q⟩
 |cont=>obtain⟨σ',H',I,q⟩:=h;exact⟨σ',H',I.unwish,q⟩
 |ret u=>obtain⟨v,σ',H',I,r,q⟩:=h;exact⟨v,σ',H',I.unwish,r,q⟩
theorem PSs.nox {st} (h:PSs X.nox st t):PSs X st t:=λpins s σ H D I hw=>
 wpAny_mono (h pins s σ H D (I.wish _) hw) (λ_ _ q=>q.unwish) λ_ _ z=>False.elim z
end
section
variable {X:Cx} {st:Stmt} {rest:List Stmt} {t u:TS} {e:Expr} {te:TE} {pos:Pos}
def Hn:TS:=λD σ H=>D.nx σ H
def KD (t u:TS):TS:=λD σ H=>t {D with nx:=u D} σ H
theorem pss_nil:PSs X [] Hn:=λ_ _ σ H _ I h=>wpAny_execs_nil ⟨σ,H,I,h⟩
theorem kN (h1:PS X st t) (h2:PSs X rest u):PSs X (st::rest) (KD t u):=by
 intro pins s σ H D I h;refine wpAny_execs_cons (thn (h1 pins s σ H {D with nx:=u D} I h) λf s1 q=>?_);cases f with
 |next=>
  obtain⟨σ',H',I',q⟩:=q;exact h2 pins s1 σ' H' D I' q
 |ret v=>exact q
 |brk=>exact q
 |cont=>exact q
theorem Inv.quiet {σ:St} (I:Inv X pins σ H s):interactive X.env=false:=by simp[interactive,I.ok.kind]
def Ho (te:TE):TS:=λD σ H=>te σ H λ_ H1=>D.nx σ H1
theorem dF (he:PE X e te) (hs:swapsWith e none pos.line X.env=pure false:=by rfl):PS X (.Expr e pos) (Ho te):=by
 intro pins s σ H D I h;exact wpAny_Expr_any (thn (he pins s σ H _ I h) λv s1 ⟨x,H1,I1,r1,q1⟩=>⟨σ,H1,I1,q1⟩) I.quiet hs
def KE (te:TE):TS:=λD σ H=>te σ H D.rt
theorem rS (he:PE X e te):PS X (.Return (some e) pos) (KE te):=by
 intro pins s σ H D I h;exact wpAny_Return_some (thn (he pins s σ H _ I h) λv s1 ⟨x,H1,I1,r1,q1⟩=>⟨x,σ,H1,I1,r1,q1⟩)
def Hq:TS:=λD _ H=>D.rt .non H
theorem ps_retN:PS X (.Return none pos) Hq:=λ_ _ σ H _ I h=>wpAny_Return_none ⟨.non,σ,H,I,rfl,h⟩
def KF (c:TT) (t u:TS):TS:=λD σ H=>c σ H λb H1=>if b=true then t D σ H1 else u D σ H1
theorem wA (hc:PT X c tc) (ha:PSs X a t) (hb:PSs X b u):PS X (.If c a b pos) (KF tc t u):=by
 intro pins s σ H D I h;refine wpAny_If (thn (hc pins s σ H _ I h) λd s1 ⟨H1,I1,q1⟩=>?_);cases d with
 |true=>exact ha pins s1 σ H1 D I1 q1
 |false=>exact hb pins s1 σ H1 D I1 q1
def wB:TS:=λ_ _ _=>False
theorem ps_never:PS X st wB:=λ_ _ _ _ _ _ h=>h.elim
theorem pss_never:PSs X sts wB:=λ_ _ _ _ _ _ h=>h.elim
end
abbrev TG:=V->St->Hp->(St->Hp->Prop)->Prop
abbrev TGs:=List V->St->Hp->(St->Hp->Prop)->Prop
def PG (X:Cx) (target:Expr) (t:TG):Prop:=
 ∀ (pins:List (Addr×Obj)) (s:Shared) (σ:St) (H:Hp) (v:V) (u:Value) (Q:St->Hp->Prop),Inv X pins σ H s->RelV v u->t v σ H Q->
  wpAny (model X.prog X.w) X.A (assign target X.env u) (λ_ s'=>∃σ' H',Inv X pins σ' H' s'/\Q σ' H') X.xe s
noncomputable def PGs (X:Cx) (ts:List Expr) (t:TGs):Prop:=
 ∀ (pins:List (Addr×Obj)) (s:Shared) (σ:St) (H:Hp) (vs:List V) (us:List Value) (Q:St->Hp->Prop),Inv X pins σ H s->Vals vs us->t vs σ H Q->
  wpAny (model X.prog X.w) X.A (assignInOrder ((assignEach ts X.env).map (·.2)) us) (λ_ s'=>∃σ' H',Inv X pins σ' H' s'/\Q σ' H') X.xe s
abbrev D5:=V->V->V->Hp->(Hp->Prop)->Prop
def Hr (X:Cx) (t:D5):Prop:=
 ∀ (pins:List (Addr×Obj)) (s:Shared) (σ:St) (H:Hp) (o i v:V) (ov iv u:Value) (Q:Hp->Prop),Inv X pins σ H s->RelV o ov->RelV i iv->RelV v u->t o i v H Q->
  wpAny (model X.prog X.w) X.A (setItem ov iv u) (λ_ s'=>∃H',Inv X pins σ H' s'/\Q H') X.xe s
section
variable {X:Cx} {pos:Pos}
def p9 (i:Nat):TG:=λv σ H Q=>Q (σ.set i (some v)) H
theorem tX (hN:X.N.Nodup) (hi:X.N[i]?=some x) (hx:Loc X.env.scope x) (hf:X.fn x=true\/X.env.scope.names.lookup x=some .local:=by first|exact .inl rfl|exact .inr rfl|assumption):PG X (.Name x pos) (p9 i):=by
 intro pins s σ H v u Q I r h;exact wpAny_assign_Name (kM I hN hi hx r (λs' I'=>⟨_,H,I',h⟩) hf)
def KG:TGs:=λvs σ H Q=>vs=[]/\Q σ H
def Hs (t:TG) (u:TGs):TGs:=λvs σ H Q=>∃v r,vs=v::r/\t v σ H λσ' H'=>u r σ' H' Q
theorem pgs_nil:PGs X [] KG:=by
 intro pins s σ H vs us Q I r h;obtain⟨e,h⟩:=h;subst e;cases r;exact assignInOrder_nil ⟨σ,H,I,h⟩
theorem qg (h1:PG X e t) (h2:PGs X es u) (hs:(assignEach (e::es) X.env).map (·.2)=assign e X.env::(assignEach es X.env).map (·.2):=by rfl):PGs X (e::es) (Hs t u):=by
 intro pins s σ H vs us Q I r h;obtain⟨v,vr,e1,h⟩:=h;subst e1;cases r with
 |cons r rr=>
  rw[hs];refine assignInOrder_cons (thn (h1 pins s σ H _ _ _ I r h) λ_ s1 ⟨σ1,H1,I1,q1⟩=>?_);exact h2 pins s1 σ1 H1 _ _ Q I1 rr q1
def KH (K:Frag) (n:Nat) (t:TGs):TG:=λv σ H Q=>∃a xs,v=.ref a/\SqT K H a xs/\xs.length=n/\t xs σ H Q
theorem wC {k} (hc:X.calm=true) (h:PGs X es t) (hn:(assignEach es X.env).length=n:=by rfl) (hst:(assignEach es X.env).findIdx? (·.1)=none:=by rfl):PG X (.Tuple es k pos) (KH X.K n t):=by
 intro pins s σ H v u Q I r hw;obtain⟨a,xs,e1,hq,hl,hw⟩:=hw;subst e1;cases r;obtain⟨its,rv,ht,hz⟩:=I.tuple hq;refine assign_Tuple_tuple (I.ok.hd hc) ht (by simp[hn,<-hl,rv.length]) hst λh' hx=>?_;have I1:Inv X pins σ H {s with heap:=h'}:=I.kept (t':=s.toks) λb o e=>hx b o (Nat.ne_of_lt (Heap.lt_size e)) e;exact h pins _ σ H xs _ Q I1 (by simpa using rv) hw
def KI (to ti:TE) (t:D5):TG:=λv σ H Q=>to σ H λo H1=>ti σ H1 λi H2=>t o i v H2 λH3=>Q σ H3
theorem D6 (ho:PE X o to) (hi:PE X i ti) (hs:Hr X t) (ha:∀v,assign (.Subscript o i pos) X.env v=(do
  let ov<-holding [v] (eval o X.env)
  let iv<-holding [v,ov] (eval i X.env)
  standAt pos
  holding [v,ov,iv] (setItem ov iv v)
  release [v,ov,iv] []):=by intro _;rfl):PG X (.Subscript o i pos) (KI to ti t):=by
 intro pins s σ H v u Q I r h
 rw[ha]
 refine wpAny_bind (wpAny_holding (thn (ho pins s σ H _ I h) λov s1 ⟨x,H1,I1,r1,q1⟩=>?_))
 refine wpAny_bind (wpAny_holding (thn (hi pins s1 σ H1 _ I1 q1) λiv s2 ⟨y,H2,I2,r2,q2⟩=>?_))
 refine wpAny_bind (wpAny_standAt (wpAny_bind (wpAny_holding (thn (hs pins s2 σ H2 x y v ov iv u _ I2 r1 r2 r q2) λ_ s3 ⟨H3,I3,q3⟩=>?_))))
 exact wpAny_release ⟨σ,H3,I3,q3⟩
def wD (te:TE) (g:TG):TS:=λD σ H=>te σ H λx H1=>g x σ H1 D.nx
theorem D7 (he:PE X e te) (hg:PG X tg g) (hs:swapsWithSole [tg] e pos.line X.env=pure false:=by rfl) (hw:swappedStores [tg] e X.env=pure none:=by rfl) (h1:(assignEach [tg] X.env).map (·.2)=[assign tg X.env]:=by rfl):PS X (.Assign [tg] e pos) (wD te g):=by
 intro pins s σ H D I h;refine wpAny_Assign_stores (thn (he pins s σ H _ I h) λv s1 ⟨x,H1,I1,r1,q1⟩=>?_) hs hw;rw[h1];exact thn (hg pins s1 σ H1 x v _ I1 r1 q1) λ_ s2 q=>q
theorem wE (hN:X.N.Nodup) (hi:X.N[i]?=some x) (hx:Loc X.env.scope x) (he:PE X e te) (hs:swapsWith e (some (.Name x pos')) pos.line X.env=pure false:=by rfl) (hf:X.fn x=true\/X.env.scope.names.lookup x=some .local:=by first|exact .inl rfl|exact .inr rfl|assumption):
  PS X (.Assign [.Name x pos'] e pos) (wD te (p9 i)):=by
 intro pins s σ H D I h
 refine wpAny_Assign_Name (thn (he pins s σ H _ I h) λv s1 ⟨y,H1,I1,r1,q1⟩=>?_) hs
 exact kM I1 hN hi hx r1 (λs2 I2=>⟨_,H1,I2,q1⟩) hf
end
section
variable {X:Cx} {pos:Pos}
def D8 (c:TT) (tb:TS):TS:=λD σ H=>∃W:Nat->St->Hp->Prop,(∃m,W m σ H)/\∀m σ H,W m σ H->
 c σ H λb H1=>if b=true then∃N:St->Hp->Prop,(∀σ' H',N σ' H'->∃m',m'<m/\W m' σ' H')/\tb {D with nx:=N,ct:=N,bk:=D.nx} σ H1 else D.nx σ H1
theorem wF (hp:PassesOwn (model X.prog X.w) X.A X.env X.xe) (hc:PT X c tc) (hb:PSs X body tb):PS X (.While c body [] pos) (D8 tc tb):=by
 intro pins s σ H D I h;obtain⟨W,⟨m0,w0⟩,turn⟩:=h;refine wpAny_While (codeAny_whileLoop (λn s'=>∃σ' H',Inv X pins σ' H' s'/\W n σ' H') ?_ m0 ⟨σ,H,I,w0⟩);rintro n s1 ⟨σ1,H1,I1,w1⟩;refine wpAny_passesOwn hp (thn (hc pins s1 σ1 H1 _ I1 (turn n σ1 H1 w1)) λb s2 ⟨H2,I2,q2⟩=>?_);cases b with
 |true=>
  obtain⟨N,hN,q2⟩:=q2;rw[if_pos rfl];refine wpAny_passesOwn hp (thn (hb pins s2 σ1 H2 _ I2 q2) λf s3 q3=>?_);cases f with
  |next=>
   obtain⟨σ3,H3,I3,n3⟩:=q3;obtain⟨m',hm,w3⟩:=hN σ3 H3 n3;exact⟨m',hm,σ3,H3,I3,w3⟩
  |cont=>
   obtain⟨σ3,H3,I3,n3⟩:=q3;obtain⟨m',hm,w3⟩:=hN σ3 H3 n3;exact⟨m',hm,σ3,H3,I3,w3⟩
  |brk=>exact q3
  |ret v=>exact q3
 |false=>
  rw[if_neg Bool.false_ne_true];exact wpAny_execs_nil ⟨σ1,H2,I2,q2⟩
end
structure It where
 go:Nat->Hp->Prop
 yld:Nat->Hp->V->Hp->Prop
 stop:Nat->Hp->Prop
def ib (X:Cx) (pins:List (Addr×Obj)) (H:Hp) (b:Addr):Prop:=
 H b=none/\b≠X.env.locals/\b ∉ X.fs/\(b∈X.ex\/X.s₀.heap.objs.size<=b)/\(∀x c,X.env.cells.lookup x=some c->c≠b)/\∀p∈X.pn++pins,p.1≠b
theorem Inv.fpOk {σ:St} {b:Addr} (I:Inv X pins σ H s) (hb:s.heap.objs.size<=b) (hn:H' b=none):ib X pins H' b:=by
 refine⟨hn,Nat.ne_of_gt (lt_of_lt_of_le I.lt hb),I.nofs hb,.inr (Nat.le_trans I.sz hb),λx c e z=>?_,λp hp z=>?_⟩
 ·obtain⟨v,q⟩:=I.cell x c e;exact absurd (lt_of_lt_of_le q.lt (by rw[z];exact hb)) (Nat.lt_irrefl _)
 ·exact absurd (lt_of_lt_of_le (Heap.lt_size (I.pin p hp).1) (by rw[z];exact hb)) (Nat.lt_irrefl _)
structure Turn (P:Program) (w:World) (K:Frag) (tg:Expr) (J:It) (fp:List Addr) (it:Addr) (tn:Nat->Heap->Prop):Prop where
 mem:it∈fp
 obj:∀i h,tn i h->∀b∈fp,∃o,h.get? b=some o/\∀v,o.data≠.cell v
 keep:∀i h h',tn i h->(∀b∈fp,∀o,h.get? b=some o->h'.get? b=some o)->tn i h'
 item:∀ (X:Cx),X.prog=P->X.w=w->X.K=K->X.calm=true->∀ (i:Nat) (pins:List (Addr×Obj)) (s:Shared) (σ:St) (H:Hp) (E:Value->Shared->Prop),Inv X pins σ H s->(∀b∈fp,ib X pins H b)->tn i s.heap->J.go i H->
  wpAny (model P w) X.A (pyNext (.ref it)) (λr s1=>∃u,r=some u/\
   wpAny (model P w) X.A (letOwnedTupleGo tg (.ref it) u) (λ_ s2=>∃x H',Inv X pins σ H' s2/\RelV x u/\J.yld i H x H'/\tn (i+1) s2.heap/\∀b∈fp,H' b=none) E s1) E s
 done:∀ (X:Cx),X.prog=P->X.w=w->X.K=K->X.calm=true->∀ (i:Nat) (pins:List (Addr×Obj)) (s:Shared) (σ:St) (H:Hp) (E:Value->Shared->Prop),Inv X pins σ H s->(∀b∈fp,ib X pins H b)->tn i s.heap->J.stop i H->
  wpAny (model P w) X.A (pyNext (.ref it)) (λr s1=>r=none/\Inv X pins σ H s1) E s
 self:∀ (A:Around) (i:Nat) (s:Shared) (Q:Value->Shared->Prop) (E:Value->Shared->Prop),tn i s.heap->Q (.ref it) s->wpAny (model P w) A (pyIter (.ref it)) Q E s
abbrev TI:=St->Hp->(It->Hp->Prop)->Prop
def PIE (X:Cx) (pins:List (Addr×Obj)) (σ:St) (tg:Expr) (R:It->Hp->Prop) (itv:Value) (s2:Shared):Prop:=
 ∃ (it:Addr) (fp:List Addr) (tn:Nat->Heap->Prop) (J:It) (H':Hp),itv=.ref it/\Inv X pins σ H' s2/\Turn X.prog X.w X.K tg J fp it tn/\tn 0 s2.heap/\(∀b∈fp,ib X pins H' b)/\R J H'
def PI (X:Cx) (tg iter:Expr) (wi:TI):Prop:=
 ∀ (pins:List (Addr×Obj)) (s:Shared) (σ:St) (H:Hp) (R:It->Hp->Prop),Inv X pins σ H s->wi σ H R->
  wpAny (model X.prog X.w) X.A (eval iter X.env) (λv s1=>wpAny (model X.prog X.w) X.A (pyIter v) (PIE X pins σ tg R) X.xe s1) X.xe s
theorem tY (ho:s.heap.get? it = some o) (hc:o.cls = .type n) (hd:o.data = .fields vs) (hn:["enumerate", "zip", "dict_itemiterator", "dict_reverseitemiterator", "odict_iterator", "itertools.zip_longest", "itertools.pairwise"].contains n = false) (hQ:Q () s):wpAny M A (letOwnedTupleGo tg (.ref it) u) Q E s:=by
  unfold letOwnedTupleGo
  cases tg <;> first
    | exact wpAny_pure hQ
    | (cases u <;> first
        | exact wpAny_pure hQ
        | (refine wpAny_bind (wpAny_load ho ?_)
           rw [hc,hd]
           show wpAny M A (if (["enumerate", "zip", "dict_itemiterator", "dict_reverseitemiterator", "odict_iterator", "itertools.zip_longest", "itertools.pairwise"].contains n && vs[0]? == some (rawInt _)) = true then _ else _) Q E s
           rw [if_neg (by intro h; rw [hn,Bool.false_and] at h; cases h)]
           exact wpAny_pure hQ))
def Itl (K:Frag) (a:Addr):It:=
 ⟨λi H=>∃xs x,SqL K H a xs/\xs[i]?=some x,λi H x H'=>H'=H/\∀xs,SqL K H a xs->xs[i]?=some x,λi H=>∃xs,SqL K H a xs/\xs.length<=i⟩
def Itt (K:Frag) (a:Addr):It:=
 ⟨λi H=>∃xs x,SqT K H a xs/\xs[i]?=some x,λi H x H'=>H'=H/\∀xs,SqT K H a xs->xs[i]?=some x,λi H=>∃xs,SqT K H a xs/\xs.length<=i⟩
def Itr (lo:Int) (n:Nat):It:=⟨λi _=>i<n,λi H x H'=>H'=H/\x=.int (lo+i),λi _=>n<=i⟩
theorem vm {P:Program} {w:World} {K:Frag} {tg:Expr} (a it:Addr):Turn P w K tg (Itl K a) [it] it (λi h=>h.IsListIter it a i) where
 mem:=by simp
 obj:=λi h st b hb=>by
  have e:b=it:=by simpa using hb
  subst e;obtain⟨o,e,c,d⟩:=st;exact⟨o,e,λv z=>by rw[d]at z;cases z⟩
 keep:=λi h h' st k=>st.at λo e=>k it (by simp) o e
 item:=by
  intro X hP hw hK hc i pins s σ H E I hf st hg;subst hP hw hK;obtain⟨xs,x,hq,hx⟩:=hg;obtain⟨its,rv,p,hz⟩:=I.list hq;obtain⟨u,hu,ru⟩:=rv.get hx;obtain⟨f0,f1,f2,f3,f4,f5⟩:=hf it (by simp);refine wpAny_pyNext_list_item st p.isList (x:=u) (by simpa using hu) λh' st' sb=>?_;have I1:Inv X pins σ H {s with heap:=h'}:=I.turned (t':=s.toks) (λb o hb e=>(sb.2 b hb).trans e) f0 f1 f3 f4 f5;obtain⟨o,e,c,d⟩:=id st';exact⟨u,rfl,tY (s:={s with heap:=h'}) e c d (by decide) ⟨x,H,I1,ru,⟨rfl,λys hy=>by rw[I.list_inj hy hq];exact hx⟩,st',λb hb=>(hf b hb).1⟩⟩
 done:=by
  intro X hP hw hK hc i pins s σ H E I hf st hg;subst hP hw hK;obtain⟨xs,hq,hx⟩:=hg;obtain⟨its,rv,p,hz⟩:=I.list hq;obtain⟨f0,f1,f2,f3,f4,f5⟩:=hf it (by simp);have hl:=rv.length;exact wpAny_pyNext_list_end (I.ok.hd hc) st p.isList (by simp;omega) λh' eb=>⟨rfl,I.turned (t':=s.toks) (λb o hb e=>eb b o hb e) f0 f1 f3 f4 f5⟩
 self:=λ_ _ _ _ _ st h=>wpAny_pyIter_listiter st h
theorem rT {P:Program} {w:World} {K:Frag} {tg:Expr} (a it:Addr):Turn P w K tg (Itt K a) [it] it (λi h=>h.IsTupleIter it a i) where
 mem:=by simp
 obj:=λi h st b hb=>by
  have e:b=it:=by simpa using hb
  subst e;obtain⟨o,e,c,d⟩:=st;exact⟨o,e,λv z=>by rw[d]at z;cases z⟩
 keep:=λi h h' st k=>st.at λo e=>k it (by simp) o e
 item:=by
  intro X hP hw hK hc i pins s σ H E I hf st hg;subst hP hw hK;obtain⟨xs,x,hq,hx⟩:=hg;obtain⟨its,rv,p,hz⟩:=I.tuple hq;obtain⟨u,hu,ru⟩:=rv.get hx;obtain⟨f0,f1,f2,f3,f4,f5⟩:=hf it (by simp);refine wpAny_pyNext_tuple_item st (show s.heap.IsTuple a its.toArray from p) (x:=u) (by simpa using hu) λh' st' sb=>?_;have I1:Inv X pins σ H {s with heap:=h'}:=I.turned (t':=s.toks) (λb o hb e=>(sb.2 b hb).trans e) f0 f1 f3 f4 f5;obtain⟨o,e,c,d⟩:=id st';exact⟨u,rfl,tY (s:={s with heap:=h'}) e c d (by decide) ⟨x,H,I1,ru,⟨rfl,λys hy=>by rw[I.tuple_inj hy hq];exact hx⟩,st',λb hb=>(hf b hb).1⟩⟩
 done:=by
  intro X hP hw hK hc i pins s σ H E I hf st hg;subst hP hw hK;obtain⟨xs,hq,hx⟩:=hg;obtain⟨its,rv,p,hz⟩:=I.tuple hq;obtain⟨f0,f1,f2,f3,f4,f5⟩:=hf it (by simp);have hl:=rv.length;exact wpAny_pyNext_tuple_end (I.ok.hd hc) st (show s.heap.IsTuple a its.toArray from p) (by simp;omega) λh' eb=>⟨rfl,I.turned (t':=s.toks) (λb o hb e=>eb b o hb e) f0 f1 f3 f4 f5⟩
 self:=λ_ _ _ _ _ st h=>wpAny_pyIter_tupleiter st h
theorem rV {P:Program} {w:World} {K:Frag} {tg:Expr} (it:Addr) (lo:Int) (n:Nat):Turn P w K tg (Itr lo n) [it] it (λi h=>IsRangeIter h it (lo+(i:Nat)*1) ((n:Int)-(i:Nat)) 1) where
 mem:=by simp
 obj:=λi h st b hb=>by
  have e:b=it:=by simpa using hb
  subst e;exact⟨_,st,λv z=>by
   have z':Data.fields _=Data.cell v:=z;cases z'⟩
 keep:=λi h h' st k=>k it (by simp) _ st
 item:=by
  intro X hP hw hK hc i pins s σ H E I hf st hg;subst hP hw hK;obtain⟨f0,f1,f2,f3,f4,f5⟩:=hf it (by simp);have W:=Walks.range (prog:=X.prog) (w:=X.w) (I.ok.hd hc) it lo 1 n;refine W.item i s _ _ hg st λv h' tk hv st' kk=>?_;obtain⟨t,rfl⟩:=hv;have I1:Inv X pins σ H {s with heap:=h',toks:=tk}:=I.turned (λb o hb e=>kk b o (by simpa using hb) e) f0 f1 f3 f4 f5;refine⟨_,rfl,tY (s:={s with heap:=h',toks:=tk}) (n:="range_iterator") st' rfl rfl (by decide) ⟨.int (lo+i),H,I1,⟨t,?_⟩,⟨rfl,rfl⟩,st',λb hb=>(hf b hb).1⟩⟩;rw[Int.mul_one]
 done:=by
  intro X hP hw hK hc i pins s σ H E I hf st hg;subst hP hw hK;obtain⟨f0,f1,f2,f3,f4,f5⟩:=hf it (by simp);exact wpAny_pyNext_range_end (I.ok.hd hc) st (by have:n<=i:=hg;omega) λh' eb=>⟨rfl,I.turned (t':=s.toks) (λb o hb e=>eb b o hb e) f0 f1 f3 f4 f5⟩
 self:=λ_ _ _ _ _ st h=>wpAny_pyIter_rangeiter st h
section
variable {X:Cx} {tg:Expr}
theorem wG {σ:St} {lo hi} (I:Inv X pins σ H s) (h1:-(2^62)<=lo) (h2:lo<2^62) (h3:-(2^62)<=hi) (h4:hi<2^62) (q:R (Itr lo (hi-lo).toNat) H):wpAny (model X.prog X.w) X.A (pyIter (.ref s.heap.objs.size)) (PIE X pins σ tg R) E {s with heap:=s.heap.push {cls:=.type "range",data:=.fields #[.int lo t,.int hi u,.int 1 v]},toks:=tk}:=by
 refine wpAny_pyIter_range (IsRange.new ..) (small_one h1 h2 h3 h4) ?_;have I1:Inv X pins σ H {s with heap:=s.heap.push {cls:=.type "range",data:=.fields #[.int lo t,.int hi u,.int 1 v]},toks:=tk}:=I.kept λb o e=>Heap.get?_push_of_some _ e;refine⟨(s.heap.push {cls:=.type "range",data:=.fields #[.int lo t,.int hi u,.int 1 v]}).objs.size,[(s.heap.push {cls:=.type "range",data:=.fields #[.int lo t,.int hi u,.int 1 v]}).objs.size],_,_,H,rfl,
  I1.kept (t':=tk) λb o e=>Heap.get?_push_of_some _ e,rV _ lo (hi-lo).toNat,?_,λb hb=>?_,q⟩
 ·have e1:lo+((0:Nat):Int)*1=lo:=by simp
  have e2:(((hi-lo).toNat:Nat):Int)-((0:Nat):Int)=Builtin.Range.rangeSize lo hi 1:=by rw[rangeSize_one];split<;>omega
  show IsRangeIter _ _ (lo+((0:Nat):Int)*1) ((((hi-lo).toNat:Nat):Int)-((0:Nat):Int)) 1;rw[e1,e2];exact Heap.get?_push_size _ rfl
 ·have e:b=(s.heap.push {cls:=.type "range",data:=.fields #[.int lo t,.int hi u,.int 1 v]}).objs.size:=by simpa using hb
  subst e;exact I1.fpOk (le_refl _) (I1.hok.fresh (le_refl _))
def Ht (ta:TA):TI:=λσ H R=>ta σ H λvs H1=>∃j:Int,vs=[.int j]/\ -(2^62)<=j/\j<2^62/\R (Itr 0 j.toNat) H1
theorem vn (hg:Gl X "range") (hm:X.mg "range"=none) (ha:PA X [a] ta) (hs:starEach [a] X.env=[(false,eval a X.env)]:=by rfl):PI X tg (.Call (.Name "range" p) [a] [] pos) (Ht ta):=by
 intro pins s σ H R I h;refine Call_ (hZ I hg hm boot_range (PyProof.Rows.callWith_type1 (thn (ha pos pins s σ H _ I h) λus s1 ⟨vs,H1,I1,r1,q1⟩=>?_) hs rfl));obtain⟨j,e,q1,q2,q⟩:=q1;subst e;cases r1 with
 |cons r rr=>
  cases rr;obtain⟨t,rfl⟩:=r;exact call_range_1 (wG I1 (by omega) (by omega) q1 q2 (by simpa using q))
def D9 (wi:TI) (g:TG) (tb:TS):TS:=λD σ H=>wi σ H λJ H1=>∃W:Nat->Nat->St->Hp->Prop,(∃m,W 0 m σ H1)/\∀i m σ H,W i m σ H->
 (J.stop i H/\D.nx σ H)\/(J.go i H/\∃N:St->Hp->Prop,(∀σ' H',N σ' H'->∃m',m'<m/\W (i+1) m' σ' H')/\∀x H',J.yld i H x H'->g x σ H' λσ2 H2=>tb {D with nx:=N,ct:=N,bk:=D.nx} σ2 H2)
def kO (fp:List Addr) (h:Heap):List (Addr×Obj):=fp.filterMap λb=>(h.get? b).map λo=>(b,o)
theorem fg (hb:b∈fp) (e:h.get? b=some o):(b,o)∈kO fp h:=List.mem_filterMap.mpr ⟨b,hb,by rw[e];rfl⟩
theorem vo (hp:p∈kO fp h):p.1∈fp/\h.get? p.1=some p.2:=by
 obtain⟨b,hb,e⟩:=List.mem_filterMap.mp hp;cases q:h.get? b with
 |none=>rw[q]at e;cases e
 |some o=>
  rw[q]at e;have e':(b,o)=p:=Option.some.inj e;subst e';exact⟨hb,q⟩
theorem Inv.pinned {σ:St} (I:Inv X pins σ H s) (hf:∀b∈fp,ib X pins H b) (ho:∀b∈fp,∃o,s.heap.get? b=some o/\∀v,o.data≠.cell v):Inv X (pins++kO fp s.heap) σ H s:=
 I.pins_of λp hp=>(mem_append.mp hp).elim (λz=>I.pin p (mem_append_right _ z)) λz=>by
  obtain⟨hb,e⟩:=vo z;obtain⟨f0,f1,f2,_⟩:=hf p.1 hb;obtain⟨o,e',d⟩:=ho p.1 hb;rw[e]at e';cases e';exact⟨e,f0,f1,f2,d⟩
theorem Inv.unpinned {σ:St} (I:Inv X (pins++pl) σ H s):Inv X pins σ H s:=I.pins_of λp hp=>I.pin p (mem_append_right _ (mem_append_left _ hp))
theorem kP (hp:PassesOwn (model X.prog X.w) X.A X.env X.xe) (hc:X.calm=true) (hi:PI X tg iter wi) (hg:PG X tg g) (hb:PSs X body tb) (hs:∀x,foldedSetIterable iter X.env x=pure x:=by intro _;rfl):PS X (.For tg iter body [] pos) (D9 wi g tb):=by
 intro pins s σ H D I h
 refine wpAny_For (thn (hi pins s σ H _ I h) λv s1 h1=>thn h1 λitv s2 h2=>?_) hs
 obtain⟨it,fp,tn,J,H2,e,I2,T,st2,f2,W,⟨m0,w0⟩,turn⟩:=h2
 subst e
 -- what stays true of the iterator's objects through the loop
 have stat:∀ {H':Hp},(∀b∈fp,H' b=none)->∀b∈fp,ib X pins H' b:=λhn b hb=>⟨hn b hb,(f2 b hb).2⟩
 refine codeAny_forLoop_any (λn s'=>∃i σ' H',Inv X pins σ' H' s'/\tn i s'.heap/\(∀b∈fp,H' b=none)/\W i n σ' H') ?_ m0 ⟨0,σ,H2,I2,st2,λb hb=>(f2 b hb).1,w0⟩
 rintro n s3 ⟨i,σ3,H3,I3,st3,fr3,w3⟩
 rcases turn i n σ3 H3 w3 with⟨stop,qn⟩|⟨go,N,hN,step⟩
 ·refine wpAny_passesOwn hp (thn (T.done X rfl rfl rfl hc i pins s3 σ3 H3 X.xe I3 (stat fr3) st3 stop) λr s4 ⟨hr,I4⟩=>?_)
  subst hr
  exact wpAny_execs_nil ⟨σ3,H3,I4,qn⟩
 ·refine wpAny_passesOwn hp (thn (T.item X rfl rfl rfl hc i pins s3 σ3 H3 X.xe I3 (stat fr3) st3 go) λr s4 ⟨u,hr,h4⟩=>?_)
  subst hr
  refine wpAny_passesOwn hp (thn h4 λ_ s5 ⟨x,H5,I5,r5,y5,st5,fr5⟩=>?_)
  have I5':=I5.pinned (stat fr5) (T.obj _ _ st5)
  refine wpAny_passesOwn hp (thn (hg _ s5 σ3 H5 x u _ I5' r5 (step x H5 y5)) λ_ s6 ⟨σ6,H6,I6,q6⟩=>?_)
  refine wpAny_passesOwn hp (thn (hb _ s6 σ6 H6 _ I6 q6) λf s7 q7=>?_)
  have again:∀ {σ7:St} {H7:Hp},Inv X (pins++kO fp s5.heap) σ7 H7 s7->N σ7 H7->∃m,m<n/\∃i σ' H',Inv X pins σ' H' s7/\tn i s7.heap/\(∀b∈fp,H' b=none)/\W i m σ' H':=λ{σ7 H7} I7 n7=>by
   obtain⟨m',hm,w7⟩:=hN σ7 H7 n7
   refine⟨m',hm,i+1,σ7,H7,I7.unpinned,T.keep _ _ _ st5 λb hb o e=>(I7.pin (b,o) (mem_append_right _ (mem_append_right _ (fg hb e)))).1,λb hb=>?_,w7⟩
   obtain⟨o,e,d⟩:=T.obj _ _ st5 b hb
   exact(I7.pin (b,o) (mem_append_right _ (mem_append_right _ (fg hb e)))).2.1
  cases f with
  |next=>obtain⟨σ7,H7,I7,n7⟩:=q7;exact again I7 n7
  |cont=>obtain⟨σ7,H7,I7,n7⟩:=q7;exact again I7 n7
  |brk=>obtain⟨σ7,H7,I7,q7⟩:=q7;exact⟨σ7,H7,I7.unpinned,q7⟩
  |ret v=>obtain⟨x7,σ7,H7,I7,r7,q7⟩:=q7;exact⟨x7,σ7,H7,I7.unpinned,r7,q7⟩
end
abbrev R2:=V->V->Hp->VK->Prop
def OpR (X:Cx) (f:Value->Value->Sem Value) (r:R2):Prop:=
 ∀ (pins:List (Addr×Obj)) (s:Shared) (σ:St) (H:Hp) (x y:V) (v u:Value) (Q:VK),Inv X pins σ H s->RelV x v->RelV y u->r x y H Q->
  wpAny (model X.prog X.w) X.A (f v u) (EP X pins σ Q) X.xe s
def UnR (X:Cx) (f:Value->Sem Value) (r:V->Hp->VK->Prop):Prop:=
 ∀ (pins:List (Addr×Obj)) (s:Shared) (σ:St) (H:Hp) (x:V) (v:Value) (Q:VK),Inv X pins σ H s->RelV x v->r x H Q->
  wpAny (model X.prog X.w) X.A (f v) (EP X pins σ Q) X.xe s
def cL (X:Cx) (f:Value) (r:List V->Hp->VK->Prop):Prop:=
 ∀ (pins:List (Addr×Obj)) (s:Shared) (σ:St) (H:Hp) (xs:List V) (us:List Value) (Q:VK),Inv X pins σ H s->Vals xs us->r xs H Q->
  wpAny (model X.prog X.w) X.A (call f us) (EP X pins σ Q) X.xe s
def KJ (X:Cx) (r:V->Hp->(Bool->Hp->Prop)->Prop):Prop:=
 ∀ (pins:List (Addr×Obj)) (s:Shared) (σ:St) (H:Hp) (x:V) (v:Value) (Q:Bool->Hp->Prop),Inv X pins σ H s->RelV x v->r x H Q->
  wpAny (model X.prog X.w) X.A (truthy v) (TP X pins σ Q) X.xe s
def tOp (r:R2) (ta tb:TE):TE:=λσ H Q=>ta σ H λx H1=>tb σ H1 λy H2=>r x y H2 Q
def tUn (r:V->Hp->VK->Prop) (ta:TE):TE:=λσ H Q=>ta σ H λx H1=>r x H1 Q
def rI (C:Int->Int->Prop) (g:Int->Int->V):R2:=λx y H Q=>∃i j,x=.int i/\y=.int j/\C i j/\Q (g i j) H
def rI0 (g:Int->Int->V):R2:=λx y H Q=>∃i j,x=.int i/\y=.int j/\Q (g i j) H
def rU (g:Int->V):V->Hp->VK->Prop:=λx H Q=>∃i,x=.int i/\Q (g i) H
section
variable {X:Cx} {a b c:Expr} {ta tb tc:TE} {pos:Pos}
theorem Ea (ha:PE X a ta) (hb:PE X b tb) {σ:St} {R:V->V->Hp->Prop} (I:Inv X pins σ H s) (h:ta σ H λx H1=>tb σ H1 λy H2=>R x y H2) {f:Value->Value->Sem Value} (hf:∀v u s2 x y H2,Inv X pins σ H2 s2->RelV x v->RelV y u->R x y H2->wpAny (model X.prog X.w) X.A (f v u) Q X.xe s2):
  wpAny (model X.prog X.w) X.A (eval a X.env) (λv s₁=>wpAny (model X.prog X.w) X.A (eval b X.env) (λu s₂=>wpAny (model X.prog X.w) X.A (f v u) Q X.xe s₂) X.xe s₁) X.xe s:=by
 refine thn (ha pins s σ H _ I h) λv s1 ⟨x,H1,I1,r1,q1⟩=>?_
 refine thn (hb pins s1 σ H1 _ I1 q1) λu s2 ⟨y,H2,I2,r2,q2⟩=>?_
 grind
theorem wH (ho:OpR X (binaryOp op) r) (ha:PE X a ta) (hb:PE X b tb):PE X (.BinOp a op b pos) (tOp r ta tb):=by
 intro pins s σ H Q I h;exact wpAny_BinOp (Ea ha hb I h λv u s2 x y H2 I2 rx ry q=>ho pins s2 σ H2 x y v u Q I2 rx ry q)
theorem Hu (ho:UnR X (unaryOp op) r) (ha:PE X a ta):PE X (.UnaryOp op a pos) (tUn r ta):=by
 intro pins s σ H Q I h;exact UnaryOp_ (thn (ha pins s σ H _ I h) λv s1 ⟨x,H1,I1,r1,q1⟩=>ho pins s1 σ H1 x v Q I1 r1 q1)
theorem opI {g:Int->Int->Int} (rule:∀ (i j:Int) (t u:Tok) (s:Shared) (Q:Value->Shared->Prop) (E:Value->Shared->Prop),C i j->Q (.int (g i j) s.toks) {s with toks:=s.toks+1}->wpAny (model X.prog X.w) X.A (f (.int i t) (.int j u)) Q E s):
  OpR X f (rI C λi j=>.int (g i j)):=by
 intro pins s σ H x y v u Q I rx ry h
 obtain⟨i,j,rfl,rfl,hc,q⟩:=h
 obtain⟨t,rfl⟩:=rx
 obtain⟨t',rfl⟩:=ry
 exact rule i j t t' s _ _ hc ⟨.int (g i j),H,I.tok _,⟨_,rfl⟩,q⟩
theorem Hv {g:Int->Int->Int} (rule:∀ (i j:Int) (t u:Tok) (s:Shared) (Q:Value->Shared->Prop) (E:Value->Shared->Prop),Q (.int (g i j) s.toks) {s with toks:=s.toks+1}->wpAny (model X.prog X.w) X.A (f (.int i t) (.int j u)) Q E s):
  OpR X f (rI0 λi j=>.int (g i j)):=by
 intro pins s σ H x y v u Q I rx ry h
 obtain⟨i,j,rfl,rfl,q⟩:=h
 obtain⟨t,rfl⟩:=rx
 obtain⟨t',rfl⟩:=ry
 exact rule i j t t' s _ _ ⟨.int (g i j),H,I.tok _,⟨_,rfl⟩,q⟩
theorem AL {g:Int->Int->Bool} (rule:∀ (i j:Int) (t u:Tok) (s:Shared) (Q:Value->Shared->Prop) (E:Value->Shared->Prop),Q (.bool (g i j)) s->wpAny (model X.prog X.w) X.A (f (.int i t) (.int j u)) Q E s):
  OpR X f (rI0 λi j=>.bl (g i j)):=by
 intro pins s σ H x y v u Q I rx ry h
 obtain⟨i,j,rfl,rfl,q⟩:=h
 obtain⟨t,rfl⟩:=rx
 obtain⟨t',rfl⟩:=ry
 exact rule i j t t' s _ _ ⟨.bl (g i j),H,I,rfl,q⟩
def KL (i j:Int):Prop:=0<=j/\j<=1000000/\i.natAbs<2^64
def CMul (i j:Int):Prop:=(-(2^64)<i/\i<2^64)\/(-(2^64)<j/\j<2^64)
theorem CMul.ok (h:CMul i j):IntMulOk i j:=by
 rcases h with⟨h1,h2⟩|⟨h1,h2⟩
 ·exact .of_left (intBits_le_64 h1 h2)
 ·exact .of_right (intBits_le_64 h1 h2)
theorem Eb:OpR X (binaryOp .Add) (rI0 λi j=>.int (i+j)):=Hv λ_ _ _ _ _ _ _ q=>add_int q
theorem Ec:OpR X (binaryOp .Sub) (rI0 λi j=>.int (i-j)):=Hv λ_ _ _ _ _ _ _ q=>sub_int q
theorem Ed:OpR X (binaryOp .Mult) (rI CMul λi j=>.int (i*j)):=opI λ_ _ _ _ _ _ _ hc q=>mul_int q hc.ok
theorem Ee:OpR X (binaryOp .Mod) (rI (λ_ j=>0<j) λi j=>.int (i%j)):=opI λi j _ _ _ _ _ hc q=>by
 have h1:(0:Int)<j:=hc;exact mod_int' (by omega) (by rw[Int.fmod_eq_emod_of_nonneg i (by omega)];exact q)
theorem unI {g:Int->Int} (rule:∀ (i:Int) (t:Tok) (s:Shared) (Q:Value->Shared->Prop) (E:Value->Shared->Prop),Q (.int (g i) s.toks) {s with toks:=s.toks+1}->wpAny (model X.prog X.w) X.A (f (.int i t)) Q E s):
  UnR X f (rU λi=>.int (g i)):=by
 intro pins s σ H x v Q I rx h
 obtain⟨i,rfl,q⟩:=h
 obtain⟨t,rfl⟩:=rx
 exact rule i t s _ _ ⟨.int (g i),H,I.tok _,⟨_,rfl⟩,q⟩
theorem Ef:UnR X (unaryOp .USub) (rU λi=>.int (-i)):=unI λ_ _ _ _ _ q=>neg_int q
end
noncomputable def mU:V->V->Bool
 |.non,.non=>true|.non,.int _=>true|.int _,.non=>true|.non,.bl _=>true|.bl _,.non=>true|.non,.str _=>true|.str _,.non=>true
 |.int _,.int _=>true|.bl _,.bl _=>true|.str _,.str _=>true|.byt _,.byt _=>true
 |.int _,.str _=>true|.str _,.int _=>true|.bl _,.str _=>true|.str _,.bl _=>true
 |_,_=>false
def rEq:R2:=λx y H Q=>mU x y=true/\Q (.bl (decide (x=y))) H
def rNe:R2:=λx y H Q=>mU x y=true/\Q (.bl (!decide (x=y))) H
theorem t5:decide (V.int i=V.int j)=(i==j):=by
 rw[Bool.eq_iff_iff];simp
theorem dec_bl:decide (V.bl i=V.bl j)=(i==j):=by
 rw[Bool.eq_iff_iff];simp
theorem t6:decide (V.str i=V.str j)=(i==j):=by
 rw[Bool.eq_iff_iff];simp
theorem t9:decide (V.byt i=V.byt j)=(i.toList==j.toList):=by
 rw[Bool.eq_iff_iff];cases i;cases j;simp
section
variable {X:Cx} {a b c:Expr} {ta tb tc:TE} {pos:Pos}
theorem fin_bl {σ:St} (I:Inv X pins σ H s) (q:Q (.bl k) H) (e:k=k'):EP X pins σ Q (.bool k') s:=by
 subst e;exact⟨.bl k,H,I,rfl,q⟩
theorem Hw:OpR X (compareOp .Eq) rEq:=by
 intro pins s σ H x y v u Q I rx ry h;obtain⟨hs,q⟩:=h;cases x with
 |non=>
  cases rx;cases y with
  |non=>cases ry;exact PySem.EqNone.eq_none_none (fin_bl I q (by simp))
  |bl j=>cases ry;exact PySem.EqNone.eq_none_bool (fin_bl I q (by simp))
  |int j=>obtain⟨t',rfl⟩:=ry;exact PySem.EqNone.eq_none_int (fin_bl I q (by simp))
  |str j=>obtain⟨t',rfl⟩:=ry;exact PySem.EqNone.eq_none_str (fin_bl I q (by simp))
  |_=>exact absurd (show false=true from hs) Bool.false_ne_true
 |bl i=>
  cases rx;cases y with
  |non=>cases ry;exact PySem.EqNone.eq_bool_none (fin_bl I q (by simp))
  |bl j=>cases ry;exact eq_bool (fin_bl I q dec_bl)
  |str j=>obtain⟨t',rfl⟩:=ry;exact PySem.EqMixed.eq_bool_str (fin_bl I q (by simp))
  |_=>exact absurd (show false=true from hs) Bool.false_ne_true
 |int i=>
  obtain⟨t,rfl⟩:=rx;cases y with
  |non=>cases ry;exact PySem.EqNone.eq_int_none (fin_bl I q (by simp))
  |int j=>obtain⟨t',rfl⟩:=ry;exact eq_int (fin_bl I q t5)
  |str j=>obtain⟨t',rfl⟩:=ry;exact PySem.EqMixed.eq_int_str (fin_bl I q (by simp))
  |_=>exact absurd (show false=true from hs) Bool.false_ne_true
 |str i=>
  obtain⟨t,rfl⟩:=rx;cases y with
  |non=>cases ry;exact PySem.EqNone.eq_str_none (fin_bl I q (by simp))
  |bl j=>cases ry;exact PySem.EqMixed.eq_str_bool (fin_bl I q (by simp))
  |int j=>obtain⟨t',rfl⟩:=ry;exact PySem.EqMixed.eq_str_int (fin_bl I q (by simp))
  |str j=>obtain⟨t',rfl⟩:=ry;exact eq_str (fin_bl I q t6)
  |_=>exact absurd (show false=true from hs) Bool.false_ne_true
 |byt i=>
  obtain⟨t,rfl⟩:=rx;cases y with
  |byt j=>obtain⟨t',rfl⟩:=ry;exact PySem.W.eq_bytes (fin_bl I q t9)
  |_=>exact absurd (show false=true from hs) Bool.false_ne_true
 |_=>cases y<;>exact absurd (show false=true from hs) Bool.false_ne_true
theorem Hx:OpR X (compareOp .NotEq) rNe:=by
 intro pins s σ H x y v u Q I rx ry h;obtain⟨hs,q⟩:=h;cases x with
 |non=>
  cases rx;cases y with
  |non=>cases ry;exact PySem.EqNone.ne_none_none (fin_bl I q (by simp))
  |bl j=>cases ry;exact PySem.EqNone.ne_none_bool (fin_bl I q (by simp))
  |int j=>obtain⟨t',rfl⟩:=ry;exact PySem.EqNone.ne_none_int (fin_bl I q (by simp))
  |str j=>obtain⟨t',rfl⟩:=ry;exact PySem.EqNone.ne_none_str (fin_bl I q (by simp))
  |_=>exact absurd (show false=true from hs) Bool.false_ne_true
 |bl i=>
  cases rx;cases y with
  |non=>cases ry;exact PySem.EqNone.ne_bool_none (fin_bl I q (by simp))
  |bl j=>cases ry;exact ne_bool (fin_bl I q (congrArg not dec_bl))
  |str j=>obtain⟨t',rfl⟩:=ry;exact PySem.EqMixed.ne_bool_str (fin_bl I q (by simp))
  |_=>exact absurd (show false=true from hs) Bool.false_ne_true
 |int i=>
  obtain⟨t,rfl⟩:=rx;cases y with
  |non=>cases ry;exact PySem.EqNone.ne_int_none (fin_bl I q (by simp))
  |int j=>obtain⟨t',rfl⟩:=ry;exact ne_int (fin_bl I q (congrArg not t5))
  |str j=>obtain⟨t',rfl⟩:=ry;exact PySem.EqMixed.ne_int_str (fin_bl I q (by simp))
  |_=>exact absurd (show false=true from hs) Bool.false_ne_true
 |str i=>
  obtain⟨t,rfl⟩:=rx;cases y with
  |non=>cases ry;exact PySem.EqNone.ne_str_none (fin_bl I q (by simp))
  |bl j=>cases ry;exact PySem.EqMixed.ne_str_bool (fin_bl I q (by simp))
  |int j=>obtain⟨t',rfl⟩:=ry;exact PySem.EqMixed.ne_str_int (fin_bl I q (by simp))
  |str j=>obtain⟨t',rfl⟩:=ry;exact ne_str (fin_bl I q (congrArg not t6))
  |_=>exact absurd (show false=true from hs) Bool.false_ne_true
 |byt i=>
  obtain⟨t,rfl⟩:=rx;cases y with
  |byt j=>obtain⟨t',rfl⟩:=ry;exact PySem.W.ne_bytes (fin_bl I q (congrArg not t9))
  |_=>exact absurd (show false=true from hs) Bool.false_ne_true
 |_=>cases y<;>exact absurd (show false=true from hs) Bool.false_ne_true
theorem Dd:OpR X (compareOp .Lt) (rI0 λi j=>.bl (decide (i<j))):=AL λ_ _ _ _ _ _ _ q=>lt_int q
theorem nC:OpR X (compareOp .LtE) (rI0 λi j=>.bl (decide (i<=j))):=AL λ_ _ _ _ _ _ _ q=>le_int q
theorem De:OpR X (compareOp .Gt) (rI0 λi j=>.bl (decide (j<i))):=AL λ_ _ _ _ _ _ _ q=>gt_int q
theorem Dg:OpR X (compareOp .GtE) (rI0 λi j=>.bl (decide (j<=i))):=AL λ_ _ _ _ _ _ _ q=>ge_int q
theorem op_notN:OpR X (compareOp .IsNot) (λx y H Q=>y=.non/\Q (.bl (!decide (x=.non))) H):=by
 intro pins s σ H x y v u Q I rx ry h;obtain⟨rfl,q⟩:=h;cases ry;refine isnot_none_gen (fin_bl I q ?_);cases x<;>first
  |(cases rx;rfl)
  |(obtain⟨t,rfl⟩:=rx;rfl)
theorem dq (b:Expr) (h:op≠.In:=by decide) (h2:op≠.NotIn:=by decide):behindInMarks op b=false:=by
 have e1:(op==CmpOp.In)=false:=by cases op<;>first|rfl|exact absurd rfl h
 have e2:(op==CmpOp.NotIn)=false:=by cases op<;>first|rfl|exact absurd rfl h2
 cases b<;>simp[behindInMarks,e1,e2]
theorem AM (ho:OpR X (compareOp op) r) (ha:PE X a ta) (hb:PE X b tb) (hm:behindInMarks op b=false):PE X (.Compare a [op] [b] pos) (tOp r ta tb):=by
 intro pins s σ H Q I h;exact wpAny_Compare1 (Ea ha hb I h λv u s2 x y H2 I2 rx ry q=>ho pins s2 σ H2 x y v u Q I2 rx ry q) hm
def Dh (t:TE):TT:=λσ H Q=>t σ H λx H'=>∃k,x=.bl k/\Q k H'
theorem AN (ho:OpR X (compareOp op) r) (ha:PE X a ta) (hb:PE X b tb) (hm:behindInMarks op b=false):PT X (.Compare a [op] [b] pos) (Dh (tOp r ta tb)):=by
 intro pins s σ H Q I h;refine wpAny_isTrue_Compare1 (thn (ha pins s σ H _ I h) λv s1 ⟨x,H1,I1,r1,q1⟩=>thn (hb pins s1 σ H1 _ I1 q1) λu s2 ⟨y,H2,I2,r2,q2⟩=>
  thn (ho pins s2 σ H2 x y v u _ I2 r1 r2 q2) λc s3 ⟨z,H3,I3,r3,k,e,q3⟩=>?_) hm
 subst e;cases r3;exact wpAny_truthy_bool ⟨H3,I3,q3⟩
def rW (r r':R2) (ta tb tc:TE):TE:=λσ H Q=>ta σ H λx H1=>tb σ H1 λy H2=>r x y H2 λz H3=>∃k,z=.bl k/\
 (if k=true then tc σ H3 λw' H4=>r' y w' H4 Q else Q (.bl false) H3)
theorem wI (ho:OpR X (compareOp op) r) (ho':OpR X (compareOp op') r') (ha:PE X a ta) (hb:PE X b tb) (hc:PE X c tc) (hm:lastMarks [op,op'] [b,c]=false:=by with_unfolding_all rfl):PE X (.Compare a [op,op'] [b,c] pos) (rW r r' ta tb tc):=by
 intro pins s σ H Q I h;refine Compare_chain (thn (ha pins s σ H _ I h) λv s1 ⟨x,H1,I1,r1,q1⟩=>chain_link (thn (hb pins s1 σ H1 _ I1 q1) λu s2 ⟨y,H2,I2,r2,q2⟩=>
  thn (ho pins s2 σ H2 x y v u _ I2 r1 r2 q2) λd s3 ⟨z,H3,I3,r3,k,e,q3⟩=>?_)) hm
 subst e;cases r3;refine wpAny_truthy_bool ?_;cases k with
 |false=>exact ite_ff ⟨.bl false,H3,I3,rfl,q3⟩
 |true=>exact ite_tt (chain_last (thn (hc pins s3 σ H3 _ I3 q3) λw' s4 ⟨z',H4,I4,r4,q4⟩=>ho' pins s4 σ H4 y z' u w' Q I4 r2 r4 q4))
theorem wJ (ho:OpR X (compareOp op) r) (ho':OpR X (compareOp op') r') (ha:PE X a ta) (hb:PE X b tb) (hc:PE X c tc) (hm:lastMarks [op,op'] [b,c]=false:=by with_unfolding_all rfl):PT X (.Compare a [op,op'] [b,c] pos) (Dh (rW r r' ta tb tc)):=by
 intro pins s σ H Q I h;refine isTrue_chain (thn (ha pins s σ H _ I h) λv s1 ⟨x,H1,I1,r1,q1⟩=>test_link (thn (hb pins s1 σ H1 _ I1 q1) λu s2 ⟨y,H2,I2,r2,q2⟩=>
  thn (ho pins s2 σ H2 x y v u _ I2 r1 r2 q2) λd s3 ⟨z,H3,I3,r3,k,e,q3⟩=>?_)) hm
 subst e;cases r3;refine wpAny_truthy_bool ?_;cases k with
 |false=>
  obtain⟨k',e',q'⟩:=q3;cases e';exact ite_ff ⟨H3,I3,q'⟩
 |true=>
  refine ite_tt (test_last (thn (hc pins s3 σ H3 _ I3 q3) λw' s4 ⟨z',H4,I4,r4,q4⟩=>thn (ho' pins s4 σ H4 y z' u w' _ I4 r2 r4 q4) λd' s5 ⟨z2,H5,I5,r5,k2,e2,q5⟩=>?_));subst e2;cases r5;exact wpAny_truthy_bool ⟨H5,I5,q5⟩
noncomputable def Hy (K:Frag) (x:V) (H:Hp) (k:Bool):Prop:=
 match x with
 |.non=>k=false
 |.bl b=>k=b
 |.int i=>k=(i !=0)
 |.str y=>y.length<=sizeLine/\k=((y.length:Int) !=0)
 |.byt y=>y.size<=sizeLine/\k=((y.size:Int) !=0)
 |.ref p=>(∃xs,SqL K H p xs/\k=!xs.isEmpty)\/(∃xs,SqT K H p xs/\k=!xs.isEmpty)\/∃kvs,H p=some (.dK kvs)/\k=!kvs.isEmpty
 |_=>False
theorem rX {vs:List (κ×Value)} (r:KV kvs vs):(!vs.isEmpty)=!kvs.isEmpty:=by
 cases r<;>rfl
theorem kQ (r:Vals xs its):(!its.toArray.isEmpty)=!xs.isEmpty:=by
 cases r<;>simp
theorem kR:(sizeLine:Nat)<2^63:=by rw[sizeLine_eq];decide
theorem Eg:KJ X (λx H Q=>∃k,Hy X.K x H k/\Q k H):=by
 intro pins s σ H x v Q I rx h;obtain⟨k,e,q⟩:=h;have hl:=kR;have hs:sizeLine=16777216:=sizeLine_eq;cases x with
 |non=>
  cases rx;have e':k=false:=e;subst e';exact truthy_none ⟨H,I,q⟩
 |bl b=>
  cases rx;have e':k=b:=e;subst e';exact wpAny_truthy_bool ⟨H,I,q⟩
 |int i=>
  obtain⟨t,rfl⟩:=rx;have e':k=(i !=0):=e;subst e';exact PySem.P.truthy_int ⟨H,I,q⟩
 |str y=>
  obtain⟨t,rfl⟩:=rx;obtain⟨hy,e'⟩:y.length<=sizeLine/\k=((y.length:Int) !=0):=e;subst e';exact PySem.P.truthy_str (by omega) ⟨H,I.tok _,q⟩
 |byt y=>
  obtain⟨t,rfl⟩:=rx;obtain⟨hy,e'⟩:y.size<=sizeLine/\k=((y.size:Int) !=0):=e;subst e';exact PySem.W.truthy_bytes (by omega) ⟨H,I.tok _,q⟩
 |ref p=>
  cases rx;have e':(∃xs,SqL X.K H p xs/\k=!xs.isEmpty)\/(∃xs,SqT X.K H p xs/\k=!xs.isEmpty)\/∃kvs,H p=some (.dK kvs)/\k=!kvs.isEmpty:=e;rcases e' with⟨xs,hx,e'⟩|⟨xs,hx,e'⟩|⟨kvs,hx,e'⟩
  ·subst e';obtain⟨its,r,pl,hz⟩:=I.list hx;have hlen:=r.length;exact wpAny_truthy_list pl.isList (by simp only[size_toArray];omega) ⟨H,I.tok _,by rw[kQ r];exact q⟩
  ·subst e';obtain⟨its,r,pl,hz⟩:=I.tuple hx;have hlen:=r.length;exact truthy_tuple pl (by simp only[size_toArray];omega) ⟨H,I.tok _,by rw[kQ r];exact q⟩
  ·subst e';obtain⟨hz,hS,vs,r,m⟩:kvs.length<=sizeLine/\(p==sysModules)=false/\∃vs,KV kvs vs/\s.heap.DictOf (bh X.prog X.w) p vs:=I.hok p _ hx;have hlen:kvs.length=vs.length:=Paired.length r;exact wpAny_truthy_dict hS m (by omega) ⟨H,I.tok _,by rw[rX r];exact q⟩
 |_=>exact(show False from e).elim
theorem wK (ha:PE X a ta) (he:∀whole,isTrue a X.env whole=(do let v<-whole;standAt a.pos;holding [v] (truthy v))):
  PT X a (λσ H Q=>ta σ H λx H'=>∃k,Hy X.K x H' k/\Q k H'):=by
 intro pins s σ H Q I h
 exact isTrue_plain (thn (ha pins s σ H _ I h) λv s1 ⟨x,H1,I1,r1,q1⟩=>Eg pins s1 σ H1 x v Q I1 r1 q1) (he _)
theorem fS (r:Vals [x] us):∃u,us=[u]/\RelV x u:=by
 cases r with
 |cons r1 r2=>cases r2;exact⟨_,rfl,r1⟩
theorem qh (r:Vals [x,y] us):∃u w',us=[u,w']/\RelV x u/\RelV y w':=by
 cases r with
 |cons r1 r2=>
  cases r2 with
  |cons r3 r4=>cases r4;exact⟨_,_,rfl,r1,r3⟩
theorem call_max2 (hc:X.calm=true):cL X (.builtin "max") (λxs H Q=>∃i j,xs=[.int i,.int j]/\Q (.int (if j>i then j else i)) H):=by
 intro pins s σ H xs us Q I r h;obtain⟨i,j,rfl,q⟩:=h;obtain⟨u,w',rfl,⟨t,rfl⟩,⟨t',rfl⟩⟩:=qh r;refine max_two_ints (I.ok.hd hc) λh' tk k=>⟨_,H,I.kept k,?_,q⟩;by_cases hj:j>i
 ·rw[if_pos hj,if_pos hj];exact⟨_,rfl⟩
 ·rw[if_neg hj,if_neg hj];exact⟨_,rfl⟩
theorem call_min2 (hc:X.calm=true):cL X (.builtin "min") (λxs H Q=>∃i j,xs=[.int i,.int j]/\Q (.int (if j<i then j else i)) H):=by
 intro pins s σ H xs us Q I r h;obtain⟨i,j,rfl,q⟩:=h;obtain⟨u,w',rfl,⟨t,rfl⟩,⟨t',rfl⟩⟩:=qh r;refine min_two_ints (I.ok.hd hc) λh' tk k=>⟨_,H,I.kept k,?_,q⟩;by_cases hj:j<i
 ·rw[if_pos hj,if_pos hj];exact⟨_,rfl⟩
 ·rw[if_neg hj,if_neg hj];exact⟨_,rfl⟩
end
structure ObjM (h:Heap) (x dx C:Addr) (mA:Str->Option Value):Prop where
 obj:h.get? x=some (PySem.W.instObj C dx)
 ns:h.Ns1 dx mA
 ne:dx≠x
theorem vp {h:Heap} (n:h.Ns1 dx mA):∃od,h.get? dx=some od/\∀name,PySem.W.lookIn name od=some (mA name):=by
 obtain⟨o,es,ep,ho,hd,hk,_,hm⟩:=n;refine⟨o,ho,λname=>?_⟩;have e:=hm name;unfold nsFind findBy at e;rw[<-Array.find?_toList]at e;unfold PySem.W.lookIn;rw[hd];dsimp only;split
 ·rename_i y q;rw[q]at e;exact congrArg some e
 ·rename_i q;rw[q]at e;have a:es.toList.any (·.refKey)=false:=by
   rw[List.any_eq_false];intro y hy;obtain⟨z,t,hkey⟩:=hk y (Array.mem_toList_iff.mp hy);simp[DictEntry.refKey,hkey]
  have a':¬es.toList.any (·.refKey)=true:=by rw[a];exact Bool.false_ne_true
  rw[if_neg a'];exact congrArg some e
theorem ObjM.look (I:ObjM h x dx C mA):∃od,PySem.W.InstAt h x (PySem.W.instObj C dx) C (some od)/\∀name,PySem.W.lookIn name od=some (mA name):=
 let⟨od,ho,hl⟩:=vp I.ns
 ⟨od,⟨I.obj,rfl,rfl,ho⟩,hl⟩
section
variable {prog:Program} {w:World} {A:Around} {E:Value->Shared->Prop} {s:Shared} {K:Frag} {x dx C f:Addr} {mA:Str->Option Value} {name:Str} {v:Value}
theorem AO (X:K.In s.heap) (I:ObjM s.heap x dx C mA) (hg:PySem.W.plainGet K C name=true) (hh:PySem.W.hasDictIn K C=true) (ha:findIn K (.ref C) name=some none) (hv:mA name=some v) (hv':PySem.W.handedIn v=true) (h:Q v {s with toks:=s.toks+1}):
  wpAny (model prog w) A (getAttr (.ref x) name expr) Q E s:=by
 obtain⟨od,J,hl⟩:=I.look
 exact PySem.W.get_value X J (PySem.W.plainGet_of hg).1 (PySem.W.findObj_own hh ha rfl (by rw[hl,hv])) hv' h
theorem AQ (X:K.In s.heap) (I:ObjM s.heap x dx C mA) (hs:findIn K (.ref C) "__setattr__"=some (some (.builtin "object.__setattr__"))) (hp:PySem.W.plainOver K C=true) (ht:PySem.W.takerIn K C name=some none) (hh:PySem.W.hasDictIn K C=true) (hw:PySem.Within mA ns) (hsz:ns.length<=sizeLine) (h:∀h',ObjM h' x dx C (λy=>if y=name then some v else mA y)->Heap.SameBut dx s.heap h'->Q () {s with heap:=h',toks:=s.toks+2}):
  wpAny (model prog w) A (setAttr (.ref x) name v) Q E s:=by
 obtain⟨od,J,hl⟩:=I.look
 refine PySem.W.set_plain X J hs (PySem.W.osa_open (s:={s with toks:=s.toks+1}) (r:=none) X J hp ht λb=>?_)
 obtain⟨cd,hc,hd'⟩:=PySem.W.any_some hh
 have hx:s.heap.get? x=some ⟨.ref C,some dx,.plain,#[]⟩:=I.obj
 refine wpAny_bind (wpAny_pure (wpAny_bind (wpAny_bind (wpAny_loadPart hx (wpAny_bind (PySem.W.Looks.here (s:={s with toks:=s.toks+1}) (PySem.W.looks_clsIn X hc) ?_))))))
 rw[hd']
 refine wpAny_pure (a:=some dx) (wpAny_bind (wpAny_pure (wpAny_bind ?_)))
 refine wpAny_nsSet1 (s:={s with toks:=s.toks+1}) I.ns λh' hn2 hs2=>?_
 obtain⟨oD,esD,epD,hoD,hdD,hcD⟩:=hn2.count (PySem.Within.cons name v hw)
 refine wpAny_bind (wpAny_lookBehind hoD (by rw[hdD];exact pastItsLine_dict (Nat.le_trans hcD (by rw[length_cons];omega))) ?_)
 exact wpAny_pure (h _ ⟨(hs2.2 _ (Ne.symm I.ne)).trans I.obj,hn2,I.ne⟩ hs2)
theorem wL (X:K.In s.heap) (hm:PySem.W.makesIn K C=true) (hi:findIn K (.ref C) "__init__"=some (some (.ref f))) (hf:PySem.W.typeIn K (.ref f)=some (.type "function")) (h:codeAny (model prog w) (A.under (.builtin "type.__call__" ⟨.ref C::vs,kw⟩)) (.call (.ref f) ⟨.ref (s.heap.objs.size+1)::vs,kw⟩) (PySem.W.InitBack (s.heap.objs.size+1) R)
   {s with heap:=(s.heap.push PySem.W.emptyDict).push (PySem.W.instObj C s.heap.objs.size)}):
  codeAny (model prog w) A (.call (.ref C) ⟨vs,kw⟩) R s:=by
 obtain⟨hh,g,d,t,os⟩:=s
 exact PySem.W.make_core (PySem.W.makes_of X hm) (PySem.W.looks_findIn X hi) (λself=>PySem.W.bind_fn X self hf) (.inl rfl) h
end
def eu (f:Str) (v:V):List (Str×V)->List (Str×V)
 |[]=>[(f,v)]
 |(g,x)::r=>if g=f then(g,v)::r else(g,x)::eu f v r
theorem jE (f g:Str) (v:V):∀fs:List (Str×V),(eu f v fs).lookup g=if g=f then some v else fs.lookup g
 |[]=>by
  show List.lookup g [(f,v)]=_;by_cases h:g=f
  ·have hb:(g==f)=true:=beq_iff_eq.mpr h;simp only[List.lookup,hb,if_pos h]
  ·have hb:(g==f)=false:=beq_eq_false_iff_ne.mpr h;simp only[List.lookup,hb,if_neg h]
 |(k,x)::r=>by
  have ih:=jE f g v r;rw[show eu f v ((k,x)::r)=(if k=f then(k,v)::r else(k,x)::eu f v r)from rfl];by_cases hk:k=f
  ·rw[if_pos hk];by_cases h:g=k
   ·have hb:(g==k)=true:=beq_iff_eq.mpr h;simp only[List.lookup,hb,if_pos (h.trans hk)]
   ·have hb:(g==k)=false:=beq_eq_false_iff_ne.mpr h;simp only[List.lookup,hb,if_neg (λe:g=f=>h (e.trans hk.symm))]
  ·rw[if_neg hk];by_cases h:g=k
   ·have hb:(g==k)=true:=beq_iff_eq.mpr h;simp only[List.lookup,hb,if_neg (λe:g=f=>hk (h.symm.trans e))]
   ·have hb:(g==k)=false:=beq_eq_false_iff_ne.mpr h;simp only[List.lookup,hb];exact ih
theorem jd (f:Str) (v:V):∀fs:List (Str×V),f∈(eu f v fs).map (·.1)/\∀g,g∈fs.map (·.1)->g∈(eu f v fs).map (·.1)
 |[]=>⟨by simp[eu],λg h=>by simp at h⟩
 |(k,x)::r=>by
  obtain⟨i1,i2⟩:=jd f v r;rw[show eu f v ((k,x)::r)=(if k=f then(k,v)::r else(k,x)::eu f v r)from rfl];by_cases hk:k=f
  ·rw[if_pos hk];subst hk;exact⟨by simp,λg h=>by simpa using h⟩
  ·rw[if_neg hk];refine⟨?_,λg h=>?_⟩
   ·rw[List.map_cons];exact mem_cons_of_mem _ i1
   ·rw[List.map_cons]at h⊢;rcases mem_cons.mp h with e|e
    ·exact mem_cons.mpr (.inl e)
    ·exact mem_cons_of_mem _ (i2 g e)
theorem jF (f:Str) (v:V):∀fs:List (Str×V),(eu f v fs).length<=fs.length+1
 |[]=>by simp[eu]
 |(k,x)::r=>by
  have ih:=jF f v r;rw[show eu f v ((k,x)::r)=(if k=f then(k,v)::r else(k,x)::eu f v r)from rfl];by_cases hk:k=f
  ·rw[if_pos hk,length_cons,length_cons];omega
  ·rw[if_neg hk,length_cons,length_cons];omega
theorem RelO.some_of (r:RelO (some v) o):∃u,o=some u/\RelV v u:=by
 cases o with
 |none=>exact(show False from r).elim
 |some u=>exact⟨u,rfl,r⟩
theorem vq (r:RelV v u):PySem.W.handedIn u=true:=by
 cases v with
 |non=>cases(show u=Value.none from r);rfl
 |bl b=>cases(show u=Value.bool b from r);rfl
 |int i=>obtain⟨t,e⟩:=(show∃t,u=Value.int i t from r);cases e;rfl
 |str x=>obtain⟨t,e⟩:=(show∃t,u=Value.str x t from r);cases e;rfl
 |byt b=>obtain⟨t,e⟩:=(show∃t,u=Value.bytes b t from r);cases e;rfl
 |flt b=>obtain⟨t,e⟩:=(show∃t,u=Value.float b t from r);cases e;rfl
 |ref a=>cases(show u=Value.ref a from r);rfl
 |ty n=>cases(show u=Value.type n from r);rfl
section
variable {P:Program} {w:World} {H H':Hp} {h h':Heap} {a C dx:Addr} {fs fs':List (Str×V)}
theorem ua (hok:HOk P w H h) (e:H a=some (.ins C dx fs)):∃mA,ObjM h a dx C mA/\(∀f,RelO (fs.lookup f) (mA f))/\PySem.Within mA (fs.map (·.1))/\fs.length<=1000/\H dx=some (.own a):=by
 obtain⟨d,z,ne,ob,mA,n,r,q⟩:=(show ObjOk P w H h a (.ins C dx fs)from hok a _ e);exact⟨mA,⟨ob,n,ne⟩,r,q,z,d⟩
end
structure Cls (K:Frag) (C:Addr):Prop where
 pg:PySem.W.plainGet K C Str.empty=true
 hd:PySem.W.hasDictIn K C=true
 po:PySem.W.plainOver K C=true
 sa:findIn K (.ref C) "__setattr__"=some (some (.builtin "object.__setattr__"))
theorem Cls.get {K} (c:Cls K C) (f:Str):PySem.W.plainGet K C f=true:=c.pg
def NoAttr (K:Frag) (C:Addr) (f:Str):Prop:=findIn K (.ref C) f=some none
theorem NoAttr.taker {K} (n:NoAttr K C f):PySem.W.takerIn K C f=some none:=by
 unfold PySem.W.takerIn;grind [NoAttr]
structure Con (K:Frag) (C:Addr) (f:Str) (v:V) (u:Value):Prop where
 at_:findIn K (.ref C) f=some (some u)
 rel:RelV v u
 get:PySem.W.specialIn K u "__get__"=some none
 cp:PySem.W.copiedNames.contains f=false
structure Meth (K:Frag) (C:Addr) (m:Str) (f:Addr):Prop where
 at_:findIn K (.ref C) m=some (some (.ref f))
 fn:PySem.W.isFn K (.ref f)=true
 kp:PySem.W.keepIn K (.ref f)=true
section
variable {X:Cx} {pins:List (Addr×Obj)} {σ:St} {H:Hp} {s:Shared} {a C dx:Addr} {fs:List (Str×V)} {f:Str} {v:V} {A:Around} {E:Value->Shared->Prop}
theorem rY (I:Inv X pins σ H s) (e:H a=some (.ins C dx fs)) (c:Cls X.K C) (n:NoAttr X.K C f) (l:fs.lookup f=some v) (h:∀u s',Inv X pins σ H s'->RelV v u->Q u s'):wpAny (model X.prog X.w) A (getAttr (.ref a) f b) Q E s:=by
 obtain⟨mA,O,r,_,_,_⟩:=ua I.hok e;obtain⟨u,hu,ru⟩:=RelO.some_of (v:=v) (o:=mA f) (by rw[<-l];exact r f);exact AO I.kIn O (c.get f) c.hd n hu (vq ru) (h u _ (I.tok _) ru)
theorem rZ (I:Inv X pins σ H s) (e:H a=some (.ins C dx fs)) (c:Cls X.K C) (n:NoAttr X.K C f) (hl:fs.length<1000) (ry:RelV y u) (h:∀s',Inv X pins σ (upd H a (.ins C dx (eu f y fs))) s'->Q () s'):wpAny (model X.prog X.w) A (setAttr (.ref a) f u) Q E s:=by
 obtain⟨mA,O,r,wi,_,ho⟩:=ua I.hok e;have hz:(fs.map (·.1)).length<=sizeLine:=by rw[length_map,sizeLine_eq];omega
 refine AQ I.kIn O c.sa c.po n.taker c.hd wi hz λh' O' sb=>h _ ?_;have hd:∃o,h'.get? dx=some o:=let⟨o,_,_,e',_⟩:=O'.ns;⟨o,e'⟩;refine I.write (x:=a) (e:=dx) (by rw[e];exact True.intro) (.inr ho) (λb q hb z=>(sb.2 b hb).trans z) hd ?_;refine⟨by rw[ah O.ne];exact ho,?_,O.ne,O'.obj,_,O'.ns,λg=>?_,λg hg=>?_⟩
 ·have:=jF f y fs;omega
 ·show RelO ((eu f y fs).lookup g) (if g=f then some u else mA g);rw[jE];by_cases q:g=f
  ·rw[if_pos q,if_pos q];exact ry
  ·rw[if_neg q,if_neg q];exact r g
 ·by_cases q:g=f
  ·rw[q];exact(jd f y fs).1
  ·refine(jd f y fs).2 g (wi g λz=>hg ?_);show(if g=f then some u else mA g)=none;rw[if_neg q];exact z
theorem Inv.made (I:Inv X pins σ H s):Inv X pins σ (upd (upd H s.heap.objs.size (.own (s.heap.objs.size+1))) (s.heap.objs.size+1) (.ins C s.heap.objs.size []))
  {s with heap:=(s.heap.push PySem.W.emptyDict).push (PySem.W.instObj C s.heap.objs.size)}:=by
 have e1:(s.heap.push PySem.W.emptyDict).get? s.heap.objs.size=some PySem.W.emptyDict:=Heap.get?_push_size s.heap rfl
 have e2:((s.heap.push PySem.W.emptyDict).push (PySem.W.instObj C s.heap.objs.size)).get? (s.heap.objs.size+1)=some (PySem.W.instObj C s.heap.objs.size):=by
  have:=Heap.get?_push_size (s.heap.push PySem.W.emptyDict) (o:=PySem.W.instObj C s.heap.objs.size) rfl;rwa [Heap.size_push]at this
 have e3:(s.heap.push PySem.W.emptyDict).Ns s.heap.objs.size (λ_=>none):=⟨PySem.W.emptyDict,#[],_,e1,rfl,(λe he=>absurd he (by simp)),λ_=>rfl⟩
 have I1:=I.laid (a:=s.heap.objs.size) (o:=.own (s.heap.objs.size+1)) (h':=s.heap.push PySem.W.emptyDict) (t':=s.toks) (λb u q=>Heap.get?_push_of_some _ q) (le_refl _) ⟨_,e1⟩
 refine I1.laid (a:=s.heap.objs.size+1) (o:=.ins C s.heap.objs.size []) (t':=s.toks) (λb u q=>Heap.get?_push_of_some _ q) (Nat.le_of_eq (Heap.size_push _ _)) ?_
 have ne:s.heap.objs.size≠s.heap.objs.size+1:=Nat.ne_of_lt (Nat.lt_succ_self _)
 refine⟨by rw[ah ne,ai],Nat.zero_le _,ne,e2,λ_=>none,(Heap.Ns1.of_empty e3).at λo q=>Heap.get?_push_of_some _ q,λ_=>True.intro,λy hy=>absurd rfl hy⟩
theorem AR (hb:attributeBase e f env (eval e env)=eval e env) (h:wpAny (model prog w) A (eval e env) (λo s₁=>wpAny (model prog w) A (getAttr o f true) Q E s₁) E s):wpAny (model prog w) A (eval (.Attribute e f pos) env) Q E s:=
 Attribute_any_ h (by rw[arm_eval_Attribute,hb])
end
def KM (K:Frag) (ta:TE) (f:Str):TE:=λσ H Q=>ta σ H λx H1=>∃a C dx fs v,x=.ref a/\H1 a=some (.ins C dx fs)/\Cls K C/\NoAttr K C f/\fs.lookup f=some v/\Q v H1
def KN (K:Frag) (ta tv:TE) (f:Str):TS:=λD σ H=>tv σ H λy H1=>ta σ H1 λx H2=>∃a C dx fs,x=.ref a/\H2 a=some (.ins C dx fs)/\Cls K C/\NoAttr K C f/\fs.length<1000/\
 D.nx σ (upd H2 a (.ins C dx (eu f y fs)))
section
variable {X:Cx} {o e value:Expr} {f:Str} {pos pos' tpos:Pos} {ta tv:TE}
theorem Eh (he:PE X e ta) (hb:attributeBase e f X.env (eval e X.env)=eval e X.env):PE X (.Attribute e f pos) (KM X.K ta f):=by
 intro pins s σ H Q I h;refine AR hb (thn (he pins s σ H _ I h) λu s1 ⟨x,H1,I1,rx,a,C,dx,fs,v,ex,ea,c,n,l,q⟩=>?_);subst ex;obtain rfl:u=Value.ref a:=rx;exact rY I1 ea c n l λu' s2 I2 ru=>⟨v,H1,I2,ru,q⟩
theorem Ei (ha:PE X o ta) (hv:PE X value tv) (hs:swapsWith value (some (.Attribute o f pos')) pos.line X.env=pure false):PS X (.Assign [.Attribute o f pos'] value pos) (KN X.K ta tv f):=by
 intro pins s σ H D I h;refine plainObj_wpAny_Assign_Attribute (thn (hv pins s σ H _ I h) λu s1 ⟨y,H1,I1,ry,q⟩=>thn (ha pins s1 σ H1 _ I1 q) λov s2 ⟨x,H2,I2,rx,a,C,dx,fs,ex,ea,c,n,l,q2⟩=>?_) hs;subst ex;obtain rfl:ov=Value.ref a:=rx;exact rZ I2 ea c n l ry λs3 I3=>⟨σ,_,I3,q2⟩
end
section
variable {X:Cx} {pins:List (Addr×Obj)} {σ:St} {H:Hp} {s:Shared} {A:Around} {E:Value->Shared->Prop} {Q:Value->Shared->Prop} {c:Value} {b:Bool}
inductive TyOf (K:Frag) (H:Hp):V->Value->Prop where
 |non:TyOf K H .non (.type "NoneType")
 |bl (x:Bool):TyOf K H (.bl x) (.type "bool")
 |int (i:Int):TyOf K H (.int i) (.type "int")
 |str (x:Str):TyOf K H (.str x) (.type "str")
 |flt (x:UInt64):TyOf K H (.flt x) (.type "float")
 |lst {a:Addr} {xs:List V} (e:H a=some (.lst xs)):TyOf K H (.ref a) (.type "list")
 |frz {a:Addr} {o:Obj} {xs:List V} (e:H a=some (.frz o (.lst xs))):TyOf K H (.ref a) (.type "list")
 |tup {a:Addr} {xs:List V} (e:H a=some (.tup xs)):TyOf K H (.ref a) (.type "tuple")
 |dK {a:Addr} {kvs:List (Key×V)} (e:H a=some (.dK kvs)):TyOf K H (.ref a) (.type "dict")
 |dT {a:Addr} {kvs:List (List Key×V)} (e:H a=some (.dT kvs)):TyOf K H (.ref a) (.type "dict")
 |ins {a C dx:Addr} {fs:List (Str×V)} (e:H a=some (.ins C dx fs)) (cl:Cls K C) (ha:findIn K (.ref C) "__class__"=some (some (.builtin "object.__class__")))
  (hn:PySem.W.specialIn K (.builtin "object.__class__") "__get__"=some (some (.builtin "getset_descriptor.__get__"))) (htk:PySem.W.takesIn K (.builtin "object.__class__")=some true)
  (hm:PySem.W.mroIn K C (.type "object")=some true):TyOf K H (.ref a) (.ref C)
end
structure Room (k:Nat) (A:Around):Prop where
 hd:A.handled=none
 dp:A.depth+3*k+5<recursionLimit
 un:A.units+16*k+200<cLine
theorem Room.mono (r:Room k A) (h:j<=k):Room j A:=⟨r.hd,by have:=r.dp;omega,by have:=r.un;omega⟩
theorem Room.deeper (r:Room (k+1) A) (env:Env):Room k (A.deeper env):=
 ⟨r.hd,by have:=r.dp;show A.depth+1+3*k+5<_;omega,by have:=r.un;show A.units+3+16*k+200<_;omega⟩
theorem r6 {A:Around}:(A.under (.builtin "type.__call__" ⟨.ref C::us,kw⟩)).depth=A.depth+1:=by constructor<;>grind
theorem r9 {A:Around}:(A.under (.builtin "type.__call__" ⟨.ref C::us,kw⟩)).units=A.units+1:=by constructor<;>grind
theorem Room.make (r:Room (k+1) A) (C:Addr) (us:List Value) (kw:List (Str×Value)):Room k (A.under (.builtin "type.__call__" ⟨.ref C::us,kw⟩)):=
 ⟨r.hd,by have:=r.dp;rw[r6];omega,by have:=r.un;rw[r9];omega⟩
theorem Room.depth (r:Room k A):A.depth<recursionLimit:=by have:=r.dp;omega
def KO:TA:=λ_ H Q=>Q [] H
def Hz (ta:TE) (tr:TA):TA:=λσ H Q=>ta σ H λx H1=>tr σ H1 λxs H2=>Q (x::xs) H2
section
variable {X:Cx} {e:Expr} {es:List Expr} {te:TE} {t:TA} {pos:Pos}
theorem pa_nil:PA X [] KO:=λ_ _ _ _ H Q I h=>Calls.spliced_nil ⟨[],H,I,.nil,h⟩
theorem bi (ha:PE X e te) (hr:PA X es t) (hs:starEach (e::es) X.env=(false,eval e X.env)::starEach es X.env:=by rfl):PA X (e::es) (Hz te t):=by
 intro pos pins s σ H Q I h;rw[hs];show wpAny _ _ (spliced ((false,eval e X.env)::backTo pos (starEach es X.env))) _ _ s;refine Calls.spliced_cons (thn (ha pins s σ H _ I h) λu s1 ⟨x,H1,I1,r1,q1⟩=>?_);exact thn (hr pos pins s1 σ H1 _ I1 q1) λus s2 ⟨xs,H2,I2,r2,q2⟩=>⟨x::xs,H2,I2,.cons r1 r2,q2⟩
def KP (t:TA):TE:=λσ H Q=>t σ H λxs H1=>xs.length<=sizeLine/\∀p,H1 p=none->Q (.ref p) (upd H1 p (.tup xs))
def KQ (t:TA):TE:=λσ H Q=>t σ H λxs H1=>xs.length<=sizeLine/\∀p,H1 p=none->Q (.ref p) (upd H1 p (.lst xs))
theorem se {x1} (h:PA X es t):PE X (.Tuple es x1 pos) (KP t):=by
 intro pins s σ H Q I hq;refine wpAny_Tuple_spliced (thn (h pos pins s σ H _ I hq) λus s1 ⟨xs,H1,I1,r,z,q⟩=>⟨by rw[<-r.length];exact z,?_⟩);have hf:H1 s1.heap.objs.size=none:=I1.hok.fresh (le_refl _);refine⟨.ref s1.heap.objs.size,upd H1 s1.heap.objs.size (.tup xs),I1.laid (t':=s1.toks) (λb u e=>Heap.get?_push_of_some _ e) (le_refl _) ?_,rfl,q _ hf⟩;exact⟨z,us,r,⟨_,Heap.get?_push_size _ rfl,rfl,_,rfl⟩⟩
theorem wM (h:PA X es t):PE X (.List es pos) (KQ t):=by
 intro pins s σ H Q I hq;refine wpAny_List_spliced (thn (h pos pins s σ H _ I hq) λus s1 ⟨xs,H1,I1,r,z,q⟩=>⟨by rw[<-r.length];exact z,?_⟩);have hf:H1 s1.heap.objs.size=none:=I1.hok.fresh (le_refl _);refine⟨.ref s1.heap.objs.size,upd H1 s1.heap.objs.size (.lst xs),I1.laid (t':=s1.toks) (λb u e=>Heap.get?_push_of_some _ e) (le_refl _) ?_,rfl,q _ hf⟩;exact⟨z,us,0,r,Heap.get?_push_size _ rfl⟩
end
abbrev Sp:=List V->Hp->VK->XK->Prop
abbrev CXT:=List Env->Hp->Shared->XK->Value->Shared->Prop
structure Env0 (P:Program) (w:World) (K:Frag) (mg:Str->Option Value) (base:Heap) (A:Around) (outer:List Env) (s:Shared) (H:Hp):Prop where
 frames:A.frames=some outer
 mod:Mod K mg base
 bs:∀b o,base.get? b=some o->s.heap.get? b=some o/\H b=none
 bsz:base.objs.size<=s.heap.objs.size
 funs:s.heap.FunFrames base outer
 frf:∀b∈frs outer,H b=none
 hok:HOk P w H s.heap
 bare:AllBare s.gens
def CE (outer:List Env) (P:Program) (w:World) (H:Hp) (s:Shared) (Q:VK) (u:Value) (s':Shared):Prop:=
 ∃v H',s'.os=s.os/\AllBare s'.gens/\Un (frs outer) [] H H' s.heap s'.heap/\HOk P w H' s'.heap/\RelV v u/\Q v H'
def CR (CX:CXT) (outer:List Env) (P:Program) (w:World) (H:Hp) (s:Shared) (Q:VK) (E:XK) (r:Result) (s':Shared):Prop:=
 match r with
 |.ok (.ret u)=>CE outer P w H s Q u s'
 |.ok _=>False
 |.error e=>CX outer H s E e s'
structure FnOk (P:Program) (w:World) (K:Frag) (mg:Str->Option Value) (base:Heap) (CX:CXT) (k:Nat) (f:Addr) (fd:FuncData) (ps:List Str) (sp:Sp):Prop where
 len:∀vs H Q E,sp vs H Q E->vs.length=ps.length
 run:∀ (A:Around) (outer:List Env) (s:Shared) (H:Hp) (args:Args) (us:List Value) (vs:List V) (Q:VK) (E:XK),Room k A->Env0 P w K mg base A outer s H->BindsTo s fd args (ps.zip us)->Vals vs us->sp vs H Q E->
  codeAny (model P w) A (.call (.ref f) args) (CR CX outer P w H s Q E) s
theorem FnOk.imp {K} (F:FnOk P w K mg base CX k f fd ps sp) (h:∀vs H Q E,sp' vs H Q E->sp vs H Q E):FnOk P w K mg base CX k f fd ps sp':=
 ⟨λvs H Q E q=>F.len vs H Q E (h _ _ _ _ q),λA outer s H args us vs Q E hr he hb hv hs=>F.run A outer s H args us vs Q E hr he hb hv (h _ _ _ _ hs)⟩
theorem Env0.make {K} (e:Env0 P w K mg base A outer s H) (C:Addr) (us:List Value) (kw:List (Str×Value)):
 Env0 P w K mg base (A.under (.builtin "type.__call__" ⟨.ref C::us,kw⟩)) outer s H:=⟨by first|exact e.frames|(simpa [Around.under,Code.envs,Code.isFrame,pushEnvs] using e.frames),e.mod,e.bs,e.bsz,e.funs,e.frf,e.hok,e.bare⟩
section
variable {X:Cx} {pins:List (Addr×Obj)} {σ:St} {H:Hp} {s s':Shared}
theorem Inv.env0 (I:Inv X pins σ H s):Env0 X.prog X.w X.K X.mg X.base X.A X.stack s H:=
 ⟨I.ok.frames,I.ok.mod,I.bs,Nat.le_trans I.ok.bsz I.sz,I.stack,I.stkFree,I.hok,I.bare⟩
theorem Inv.after (I:Inv X pins σ H s) (h:CE X.stack X.prog X.w H s Q u s'):EP X pins σ Q u s':=by
 obtain⟨v,H',os,bare,un,hok,r,q⟩:=h;obtain⟨hh,g,d,t,os'⟩:=s';obtain rfl:os'=s.os:=os;exact⟨v,H',I.call (h':=hh) (g':=g) (d':=d) (t':=t) (ch:=[]) un hok bare (λb z=>absurd z (by simp)),r,q⟩
end
def HA (sp:Sp) (dvs:List V) (E:XK) (t:TA):TE:=λσ H Q=>t σ H λvs H1=>sp (vs++dvs) H1 Q E
def HC (C:Addr) (sp:Sp) (dvs:List V) (E:XK) (t:TA):TE:=λσ H Q=>t σ H λvs H1=>∀x dx,H1 x=none->H1 dx=none->dx≠x->
 sp (.ref x::(vs++dvs)) (upd (upd H1 dx (.own x)) x (.ins C dx [])) (λv H2=>v=.non/\Q (.ref x) H2) E
def Binds (K:Frag) (fd:FuncData) (ps:List Str) (ds:List Value):Prop:=
 ∀ (s:Shared) (us:List Value),K.In s.heap->(us++ds).length=ps.length->BindsTo s fd ⟨us,[]⟩ (ps.zip (us++ds))
theorem Binds.all {K} (h:∀us:List Value,us.length=ps.length->bindArgs fd ⟨us,[]⟩=pure (ps.zip us)):Binds K fd ps []:=λs us _ hl=>by
 rw[List.append_nil]at hl⊢;exact .of_eq (h us hl)
def kS (CX:CXT) (X:Cx) (E:XK):Prop:=∀ (pins:List (Addr×Obj)) (σ:St) (H:Hp) (s:Shared) (e:Value) (s':Shared),Inv X pins σ H s->CX X.stack H s E e s'->X.xe e s'
section
variable {X:Cx} {CX:CXT} {k:Nat} {f C:Addr} {fd:FuncData} {ps:List Str} {sp:Sp} {dvs:List V} {ds:List Value} {E:XK} {x m:Str} {p pos apos:Pos} {e o:Expr} {es:List Expr} {ta:TE} {t:TA}
theorem Ej {σ:St} (F:FnOk X.prog X.w X.K X.mg X.base CX k f fd ps sp) (hr:Room k X.A) (hb:Binds X.K fd ps ds) (hd:Vals dvs ds) (hx:kS CX X E) (I:Inv X pins σ H s) (r:Vals vs us) (h:sp (vs++dvs) H Q E):wpAny (model X.prog X.w) X.A (call (.ref f) us) (EP X pins σ Q) X.xe s:=by
 have r2:Vals (vs++dvs) (us++ds):=r.append hd;have hl:(us++ds).length=ps.length:=by rw[<-r2.length];exact F.len _ _ _ _ h
 refine wpAny_call (codeAny_mono (F.run X.A X.stack s H ⟨us,[]⟩ (us++ds) (vs++dvs) Q E hr I.env0 (hb s us I.kIn hl) r2 h) λr s' hq=>?_);cases r with
 |error e=>exact hx pins σ H s e s' I hq
 |ok fl=>
  cases fl with
  |ret u=>exact I.after hq
  |next=>exact False.elim hq
  |brk=>exact False.elim hq
  |cont=>exact False.elim hq
theorem ub (F:FnOk X.prog X.w X.K X.mg X.base CX k f fd ps sp) (hr:Room k X.A) (hg:Gl X x) (hm:X.mg x=some (.ref f)) (hk:PySem.W.keepIn X.K (.ref f)=true) (hb:Binds X.K fd ps ds) (hd:Vals dvs ds) (hx:kS CX X E)
  (ha:PA X (e::es) t) (hdb:(x==("__debug__":Str))=false:=by decide) (he:starEach (e::es) X.env=(false,eval e X.env)::starEach es X.env:=by rfl) (hpl:(backTo pos (starEach es X.env)).any (·.1)=false:=by rfl):
  PE X (.Call (.Name x p) (e::es) [] pos) (HA sp dvs E t):=by
 intro pins s σ H Q I h
 refine wpAny_Call_Name_kw (gy I hg hm ?_ hdb)
 refine PySem.W.callWith_K (h₀:=X.base) I.ok.mod.kin hk (thn (ha pos pins s σ H _ I h) λus s1 ⟨vs,H1,I1,r,q⟩=>⟨I1.kIn,?_⟩) he hpl
 exact Ej F hr hb hd hx I1 r q
structure Mk (K:Frag) (C f:Addr):Prop where
 makes:PySem.W.makesIn K C=true
 init:findIn K (.ref C) "__init__"=some (some (.ref f))
 fn:PySem.W.isFn K (.ref f)=true
 kp:PySem.W.keepIn K (.ref C)=true
theorem wN {σ:St} (M:Mk X.K C f) (F:FnOk X.prog X.w X.K X.mg X.base CX k f fd ps sp) (hr:Room (k+1) X.A) (hb:Binds X.K fd ps ds) (hd:Vals dvs ds) (hx:kS CX X E) (I:Inv X pins σ H s) (r:Vals vs us) (h:∀x dx,H x=none->H dx=none->dx≠x->sp (.ref x::(vs++dvs)) (upd (upd H dx (.own x)) x (.ins C dx [])) (λv H2=>v=.non/\Q (.ref x) H2) E):
  wpAny (model X.prog X.w) X.A (call (.ref C) us) (EP X pins σ Q) X.xe s:=by
 have hq:=h (s.heap.objs.size+1) s.heap.objs.size (I.hok.fresh (Nat.le_succ _)) (I.hok.fresh (le_refl _)) (Nat.ne_of_lt (Nat.lt_succ_self _))
 have I2:=Inv.made (C:=C) I
 have r2:Vals (V.ref (s.heap.objs.size+1)::(vs++dvs)) (Value.ref (s.heap.objs.size+1)::(us++ds)):=.cons rfl (r.append hd)
 have hl:(Value.ref (s.heap.objs.size+1)::us++ds).length=ps.length:=by
  have e:=r2.length;rw[F.len _ _ _ _ hq]at e;exact e.symm
 refine wpAny_call (wL (f:=f) I.kIn M.makes M.init (beq_iff_eq.mp M.fn) (codeAny_mono (F.run _ X.stack _ _ ⟨Value.ref (s.heap.objs.size+1)::us,[]⟩ (Value.ref (s.heap.objs.size+1)::(us++ds)) _ _ E (hr.make C us [])
  (I2.env0.make C us []) (hb _ (Value.ref (s.heap.objs.size+1)::us) I2.kIn hl) r2 hq) λr s' hq'=>?_))
 cases r with
 |error e=>exact hx pins σ _ _ e s' I2 hq'
 |ok fl=>
  cases fl with
  |ret u=>
   obtain⟨v,H',I3,rv,ev,q3⟩:=I2.after hq';subst ev;exact⟨rv,⟨V.ref (s.heap.objs.size+1),H',I3,rfl,q3⟩⟩
  |next=>exact False.elim hq'
  |brk=>exact False.elim hq'
  |cont=>exact False.elim hq'
theorem AS (M:Mk X.K C f) (F:FnOk X.prog X.w X.K X.mg X.base CX k f fd ps sp) (hr:Room (k+1) X.A) (hg:Gl X x) (hm:X.mg x=some (.ref C)) (hb:Binds X.K fd ps ds) (hd:Vals dvs ds) (hx:kS CX X E)
  (ha:PA X (e::es) t) (hdb:(x==("__debug__":Str))=false:=by decide) (he:starEach (e::es) X.env=(false,eval e X.env)::starEach es X.env:=by rfl) (hpl:(backTo pos (starEach es X.env)).any (·.1)=false:=by rfl):
  PE X (.Call (.Name x p) (e::es) [] pos) (HC C sp dvs E t):=by
 intro pins s σ H Q I h
 refine wpAny_Call_Name_kw (gy I hg hm ?_ hdb)
 refine PySem.W.callWith_K (h₀:=X.base) I.ok.mod.kin M.kp (thn (ha pos pins s σ H _ I h) λus s1 ⟨vs,H1,I1,r,q⟩=>⟨I1.kIn,?_⟩) he hpl
 exact wN M F hr hb hd hx I1 r q
end
section
variable {X:Cx} {CX:CXT} {k:Nat} {f C:Addr} {fd:FuncData} {ps ks:List Str} {sp:Sp} {E:XK} {x m:Str} {p pos apos kpos:Pos} {e o:Expr} {es:List Expr} {kws:List Keyword} {te ta:TE} {t tk:TA} {nm:Option Str}
structure KBinds (K:Frag) (fd:FuncData) (ps ks:List Str) (g:List Value->List Value->List Value) (gV:List V->List V->List V):Prop where
 to:∀ (s:Shared) (us ws:List Value),K.In s.heap->(g us ws).length=ps.length->BindsTo s fd ⟨us,ks.zip ws⟩ (ps.zip (g us ws))
 rel:∀ {vs:List V} {us:List Value} {zs:List V} {ws:List Value},Vals vs us->Vals zs ws->Vals (gV vs zs) (g us ws)
variable {g:List Value->List Value->List Value} {gV:List V->List V->List V}
end
structure FnScope (N P:List Str) (sc:Scope):Prop where
 kind:sc.kind=.function
 co:sc.isCoroutine=false
 gen:sc.isGenerator=false
 nd:N.Nodup
 pre:N.take P.length=P
 par:∀x∈P,sc.names.lookup x=some .local\/sc.names.lookup x=some .cell
 nofree:∀y∈sc.names,y.2≠.free
theorem nD {kindOf}:∀ {binds:List (Str×Value)} {m:Str->Option Value},(∀v,(x,v) ∉ binds)->bindL kindOf binds m x=m x
 |[],_,_=>rfl
 |(n,v)::r,m,h=>by
  unfold bindL;rw[nD λw hw=>h w (mem_cons_of_mem _ hw)];split
  ·have:x≠n:=by rintro rfl;exact h v mem_cons_self
   simp[this]
  ·rfl
theorem nF {kindOf}:∀ {binds:List (Str×Value)} {m:Str->Option Value},(∀v,(x,v) ∉ binds)->bindC kindOf binds m x=m x
 |[],_,_=>rfl
 |(n,v)::r,m,h=>by
  unfold bindC;rw[nF λw hw=>h w (mem_cons_of_mem _ hw)];split
  ·rfl
  ·have:x≠n:=by rintro rfl;exact h v mem_cons_self
   simp[this]
theorem nH {kindOf}:∀ {P:List Str} {vs:List Value} {i:Nat} {m:Str->Option Value},P.Nodup->P[i]?=some x->vs[i]?=some v->kindOf x=some .local->
  bindL kindOf (P.zip vs) m x=some v
 |[],_,_,_,_,h,_,_=>by simp at h
 |_::_,[],_,_,_,_,h,_=>by simp at h
 |p::P,w::vs,0,m,nd,h1,h2,hk=>by
  simp at h1 h2;subst h1;subst h2;show bindL kindOf ((p,w)::P.zip vs) m p=_;unfold bindL;rw[nD λv hv=>(List.nodup_cons.mp nd).1 (List.of_mem_zip hv).1,if_pos hk];simp
 |p::P,w::vs,i+1,m,nd,h1,h2,hk=>by
  show bindL kindOf ((p,w)::P.zip vs) m x=_;unfold bindL;exact nH (i:=i) (List.nodup_cons.mp nd).2 (by simpa using h1) (by simpa using h2) hk
theorem nI {kindOf}:∀ {P:List Str} {vs:List Value} {i:Nat} {m:Str->Option Value},P.Nodup->P[i]?=some x->vs[i]?=some v->kindOf x≠some .local->
  bindC kindOf (P.zip vs) m x=some v
 |[],_,_,_,_,h,_,_=>by simp at h
 |_::_,[],_,_,_,_,h,_=>by simp at h
 |p::P,w::vs,0,m,nd,h1,h2,hk=>by
  simp at h1 h2;subst h1;subst h2;show bindC kindOf ((p,w)::P.zip vs) m p=_;unfold bindC;rw[nF λv hv=>(List.nodup_cons.mp nd).1 (List.of_mem_zip hv).1,if_neg hk];simp
 |p::P,w::vs,i+1,m,nd,h1,h2,hk=>by
  show bindC kindOf ((p,w)::P.zip vs) m x=_;unfold bindC;exact nI (i:=i) (List.nodup_cons.mp nd).2 (by simpa using h1) (by simpa using h2) hk
def fJ (N:List Str) (vs:List V):St:=vs.map some++List.replicate (N.length-vs.length) none
noncomputable def ic (CX:CXT) (P:Program) (w:World) (K:Frag) (mg:Str->Option Value) (base:Heap) (N:List Str) (qual:Str) (scope:Scope) (f:Addr) (cd:Value) (A:Around) (outer:List Env) (s:Shared) (H:Hp) (E:XK):Cx where
 prog:=P
 w:=w
 K:=K
 mg:=mg
 base:=base
 A:=A.deeper (envOfC qual scope s.heap.objs.size f cd)
 N:=N
 s₀:=s
 H₀:=H
 env:=envOfC qual scope s.heap.objs.size f cd
 outer:=outer
 stack:=envOfC qual scope s.heap.objs.size f cd::outer
 ex:=[]
 calm:=true
 fn:=λ_=>true
 pn:=[]
 xe:=λe s'=>wpAny (model P w) (A.deeper (envOfC qual scope s.heap.objs.size f cd)) (leaving (envOfC qual scope s.heap.objs.size f cd) e) (λ_ s''=>CX outer H s E e s'') (λe' s''=>CX outer H s E e' s'') s'
theorem qi {sc:Scope} (h:sc.names.lookup x=some .cell):∃c,(cellsFrom n sc.names []).lookup x=some c:=by
 have q:=PySem.W.cellsFrom_some sc.names n [] (.inl h);exact Option.isSome_iff_exists.mp q
theorem vt {K} (S:FnScope N ps scope) (hd:A.handled=none) (e0:Env0 P w K mg base A outer s H) (hl:vs.length=ps.length) (r:Vals vs us) (x:InCallC s s.heap.objs.size (bindL (envOfC qual scope s.heap.objs.size f cd).kindOf (ps.zip us) λ_=>none) (cellsFrom (s.heap.objs.size+1) scope.names []) (bindC (envOfC qual scope s.heap.objs.size f cd).kindOf (ps.zip us) λ_=>none) s1):
  Inv (ic CX P w K mg base N qual scope f cd A outer s H E) [] (fJ N vs) H s1:=by
 have hpl:ps.length<=N.length:=by have:=congrArg List.length S.pre;rw[List.length_take]at this;omega
 obtain⟨h1,tk,rfl,hk⟩:=x.done
 have noA:∀b:Addr,b ∉ (ic CX P w K mg base N qual scope f cd A outer s H E).ex:=λb z=>absurd (show b∈([]:List Addr)from z) (by simp)
 refine⟨⟨e0.mod,S.kind,rfl,rfl,le_refl _,λy z c h1 h2=>?_,λy hy=>?_,λy c _ h=>?_,λ_=>hd,Around.frames_deeper e0.frames,.inr ⟨rfl,rfl⟩,λb z=>absurd z (noA b),e0.bs,e0.bsz,λb _ _=>noA b,λb z=>absurd z (noA b),e0.funs,e0.frf⟩,
  rfl,e0.bare,Un.kept hk,⟨_,x.toInCall.ns,λi y v h1 h2 h3=>?_⟩,λy c h=>⟨_,x.cell y c h⟩,e0.hok.fresh (le_refl _),λy c h=>?_,λp hp=>absurd (show p∈([]:List (Addr×Obj))from hp) (by simp),e0.hok.kept hk,?_⟩
 ·exact name_of_addr x.apart (PySem.mem_of_lookup h1) (PySem.mem_of_lookup h2)
 ·have hy:scope.names.lookup y=some .cell\/scope.names.lookup y=some .free:=hy;rcases hy with hy|hy
  ·exact qi hy
  ·exact absurd rfl (S.nofree _ (PySem.mem_of_lookup hy))
 ·exact Nat.le_of_lt (x.above y c (PySem.mem_of_lookup h))
 ·have hi:i<vs.length:=by
   unfold fJ at h2;by_cases hi:i<vs.length
   ·exact hi
   ·rw[List.getElem?_append_right (by simpa using hi)]at h2;rw[List.getElem?_replicate]at h2;split at h2<;>cases h2
  have ha:vs[i]?=some v:=by
   unfold fJ at h2;rw[getElem?_append_left (by simpa using hi),getElem?_map]at h2;cases e:vs[i]? with
   |none=>rw[e]at h2;cases h2
   |some a=>rw[e]at h2;cases h2;rfl
  obtain⟨u,hu,rv⟩:=r.get ha;have hp:ps[i]?=some y:=by
   rw[<-S.pre,List.getElem?_take_of_lt (by omega)];exact h1
  have ndP:ps.Nodup:=by rw[<-S.pre];exact S.nd.sublist (List.take_sublist _ _)
  refine⟨u,rv,?_⟩;rcases S.par y (mem_of_getElem? hp)with k|k
  ·exact .inl ⟨k,nH ndP hp hu k⟩
  ·obtain⟨c,e⟩:=qi (n:=s.heap.objs.size+1) k;refine .inr ⟨.inl k,c,e,?_⟩;have q:=x.cell y c e;rw[nI ndP hp hu (by show scope.names.lookup y≠_;rw[k];decide)]at q;exact q
 ·exact e0.hok.fresh (Nat.le_of_lt (x.above y c (PySem.mem_of_lookup h)))
 ·unfold fJ;show _=N.length;rw[length_append,length_map,List.length_replicate];omega
theorem Di {K} {dV kV doc pm cdv ct oc} (lk:K.lookup f=some ⟨oc,od,.func (PySem.W.fnOf name qual params body scope dV kV doc pm an cdv ct),osl⟩) (hcd:PySem.W.codeIn K cdv qual=true) (S:FnScope N ps scope) (len:∀vs H Q E,sp vs H Q E->vs.length=ps.length) (hbody:∀ (A:Around) (outer:List Env) (s:Shared) (H:Hp) (vs:List V) (Q:VK) (E:XK),Room k (A.deeper (envOfC qual scope s.heap.objs.size f cdv))->sp vs H Q E->
   ∃t,PSs (ic CX P w K mg base N qual scope f cdv A outer s H E) body t/\t {nx:=λ_ H'=>Q .non H',rt:=Q} (fJ N vs) H):
  FnOk P w K mg base CX (k+1) f (PySem.W.fnOf name qual params body scope dV kV doc pm an cdv ct) ps sp:=by
 refine⟨len,λA outer s H args us vs Q E hr e0 hb r hsp=>?_⟩
 have hl:=len _ _ _ _ hsp
 have KX:K.In s.heap:=e0.mod.kin.keeps λb o e=>(e0.bs b o e).1
 have lim:s.heap.NoLimit:=e0.mod.nolimit.keeps λb o e=>(e0.bs b o e).1
 have hkind:∀y∈ps.zip us,scope.names.lookup y.1=some .local\/(scope.names.lookup y.1=some .cell/\((cellsFrom (s.heap.objs.size+1) scope.names []).lookup y.1).isSome=true):=λ⟨n,v⟩ hy=>by
  rcases S.par n (List.of_mem_zip hy).1 with q|q
  ·exact .inl q
  ·exact .inr ⟨q,PySem.W.cellsFrom_some _ _ _ (.inl q)⟩
 refine codeAny_call_function hr.depth (KX _ _ lk) rfl S.co S.gen rfl (PySem.W.codeRec_of KX hcd) (hb _ _ _ _ ?_)
 refine wpAny_newFunctionEnv_cells S.kind hkind λenv he s1 x=>?_
 subst he
 refine⟨lim.keeps x.toInCall.keep,codeAny_func ?_⟩
 obtain⟨t,ht,hq⟩:=hbody A outer s H vs Q E (hr.deeper _) hsp
 have I:Inv (ic CX P w K mg base N qual scope f cdv A outer s H E) [] (fJ N vs) H s1:=vt S hr.hd e0 hl r x
 refine wpAny_mono (ht [] s1 (fJ N vs) H _ I hq) (λfl s' hs=>?_) λe s' hs=>hs
 have fin:∀ {σ':St} {H':Hp} {v:V} {u:Value},Inv (ic CX P w K mg base N qual scope f cdv A outer s H E) [] σ' H' s'->RelV v u->Q v H'->CE outer P w H s Q u s':=
  λ{σ' H' v u} J rv q=>⟨v,H',J.os,J.bare,J.base,J.hok,rv,q⟩
 cases fl with
 |ret u=>
  obtain⟨v,σ',H',J,rv,q⟩:=hs;exact fin J rv q
 |next=>
  obtain⟨σ',H',J,q⟩:=hs;exact fin (v:=V.non) (u:=Value.none) J rfl q
 |brk=>
  obtain⟨_,_,_,q⟩:=hs;exact False.elim q
 |cont=>
  obtain⟨_,_,_,q⟩:=hs;exact False.elim q
section
variable {X:Cx} {x:Str} {p pos:Pos} {e:Expr} {es:List Expr} {t:TA} {id T:String} {r:List V->Hp->VK->Prop}
def tCB (r:List V->Hp->VK->Prop) (t:TA):TE:=λσ H Q=>t σ H λvs H1=>r vs H1 Q
theorem fT (hc:cL X (.builtin id) r) (hg:Gl X x) (hm:X.mg x=none) (hv:bootBuiltins x=some (.builtin id)) (ha:PA X (e::es) t) (hn:x≠"__name__":=by decide) (hdb:(x==("__debug__":Str))=false:=by decide)
  (he:starEach (e::es) X.env=(false,eval e X.env)::starEach es X.env:=by rfl) (hpl:(backTo pos (starEach es X.env)).any (·.1)=false:=by rfl):PE X (.Call (.Name x p) (e::es) [] pos) (tCB r t):=by
 intro pins s σ H Q I h
 refine wpAny_Call_Name_kw (hZ I hg hm hv ?_ hn hdb)
 exact PyProof.Rows.callWith_builtin1 (thn (ha pos pins s σ H _ I h) λus s1 ⟨vs,H1,I1,r1,q1⟩=>hc pins s1 σ H1 vs us Q I1 r1 q1) he hpl
theorem nJ (hc:cL X (.type T) r) (hg:Gl X x) (hm:X.mg x=none) (hv:bootBuiltins x=some (.type T)) (ha:PA X (e::es) t) (hn:x≠"__name__":=by decide) (hdb:(x==("__debug__":Str))=false:=by decide)
  (he:starEach (e::es) X.env=(false,eval e X.env)::starEach es X.env:=by rfl) (hpl:(backTo pos (starEach es X.env)).any (·.1)=false:=by rfl):PE X (.Call (.Name x p) (e::es) [] pos) (tCB r t):=by
 intro pins s σ H Q I h
 refine wpAny_Call_Name_kw (hZ I hg hm hv ?_ hn hdb)
 exact PyProof.Rows.callWith_type1 (thn (ha pos pins s σ H _ I h) λus s1 ⟨vs,H1,I1,r1,q1⟩=>hc pins s1 σ H1 vs us Q I1 r1 q1) he hpl
end
end L2
namespace HT
open PySem PyProof.Rows
def lexLt:List Int->List Int->Bool
 |[],[]=>false
 |[],_::_=>true
 |_::_,[]=>false
 |x::xs,y::ys=>if x=y then lexLt xs ys else decide (x<y)
theorem lexLt_cons (x y:Int) (xs ys:List Int):lexLt (x::xs) (y::ys)=if x=y then lexLt xs ys else decide (x<y):=rfl
section
open PySem.SeqAt
open PySem.AutoSeq1 (wpAny_loadPart')
open PySem.MeetsSeq PySem.MeetsSeq2 PySem.MeetsSeq3
end
section
variable {prog:Program} {w:World} {A:Around} {E:Value->Shared->Prop} {s:Shared}
theorem cat_tup (ht:IsTup s.heap t vs.toArray) (hb:IsTup s.heap b ws.toArray) (hv:vs≠[]) (h1:ws=[]->Q (.ref t) s) (h2:ws≠[]->Q (.ref s.heap.objs.size) {s with heap:=s.heap.push {cls:=.type "tuple",data:=.seq (vs++ws).toArray}}) (hsz:vs.length+ws.length<=sizeLine):wpAny (model prog w) A (binaryOp .Add (.ref t) (.ref b)) Q E s:=by
 obtain⟨⟨cls,dd,data,sl⟩,ho,hc,n,hd⟩:=id ht;obtain⟨⟨cls2,dd2,data2,sl2⟩,ho2,hc2,n2,hd2⟩:=id hb;simp only at hc hd hc2 hd2;subst hc hd hc2 hd2;have e:vs.toArray++ws.toArray=(vs++ws).toArray:=by simp
 by_cases hw:ws=[]
 ·exact concat_meets ⟨_,ho,rfl⟩ ⟨_,ho2,rfl⟩ noFill_tuple_add seq_tuple_add PySem.F.slot_tuple_add PySem.F.entry_tuple_add (PySem.F.args_tuple_add_2 _ _)
   (tuple_addW1 t b vs.toArray ws.toArray n n2 dd dd2 sl sl2 (by simpa using hv) (by simp[hw])) ⟨ho,ho2,h1 hw⟩
 ·refine concat_meets ⟨_,ho,rfl⟩ ⟨_,ho2,rfl⟩ noFill_tuple_add seq_tuple_add PySem.F.slot_tuple_add PySem.F.entry_tuple_add (PySem.F.args_tuple_add_2 _ _)
   (tuple_addW2 t b vs.toArray ws.toArray n n2 dd dd2 sl sl2 (by simpa using hv) (by simpa using hw) (by rw[size_toArray,size_toArray];exact hsz)) ⟨ho,ho2,?_⟩
  rw[e];exact h2 hw
def sIx (n d:Nat):Option Int->Nat
 |none=>d
 |some v=>if v<0 then(v+(n:Int)).toNat else min v.toNat n
theorem sIx_none (n d:Nat):sIx n d none=d:=rfl
theorem sIx_nat (n d k:Nat):sIx n d (some (k:Int))=min k n:=by grind [sIx]
theorem Ek (n d:Nat) (hd:d<=n) (o:Option Int):sIx n d o<=n:=by
 cases o with
 |none=>exact hd
 |some v=>
  show(if v<0 then(v+(n:Int)).toNat else min v.toNat n)<=n;by_cases hv:v<0
  ·rw[if_pos hv];omega
  ·rw[if_neg hv];exact Nat.min_le_right _ _
theorem Ki (v:Int) (n d:Nat):(if v<0 then max (v+(n:Int)) 0 else min v (n:Int))=((sIx n d (some v):Nat):Int):=by grind [sIx]
theorem sg (lo hi:Option Int) (n:Nat):Builtin.Slice.sliceAdjust lo hi 1 (n:Int)=(((sIx n 0 lo:Nat):Int),((sIx n n hi:Nat):Int)):=by
 have h1:¬ ((1:Int)<0):=by omega
 unfold Builtin.Slice.sliceAdjust;grind [sIx]
theorem si (i j:Nat):Builtin.Slice.slicePlaces (i:Int) (j:Int) 1=j-i:=by
 unfold Builtin.Slice.slicePlaces;grind
theorem kT (p:IsPart v o) (h:Q o s):wpAny (model prog w) A (Builtin.Slice.slicePartIndex v) Q E s:=by
 cases p with
 |none=>exact slicePart_none h
 |int i t=>exact slicePart_int h
theorem sliceApplied_gen {lo hi} {Q:Int×Int×Nat->Shared->Prop} (hs:s.heap.IsSliceOf sl vl vu .none) (pl:IsPart vl lo) (pu:IsPart vu hi) (h:Q (((sIx n 0 lo:Nat):Int),1,sIx n n hi-sIx n 0 lo) s):wpAny (model prog w) A (Builtin.Slice.sliceApplied (.ref sl) (pure (n:Int))) Q E s:=by
 obtain⟨os,hos,hcs,hds⟩:=id hs;unfold Builtin.Slice.sliceApplied Builtin.Slice.sliceFields;refine wpAny_bind (wpAny_bind (wpAny_field hos hds (x:=vl) rfl (wpAny_bind (wpAny_field hos hds (x:=vu) rfl (wpAny_bind (wpAny_field hos hds (x:=.none) rfl (wpAny_pure ?_)))))));refine wpAny_bind (slicePart_none ?_);show wpAny _ _ (if((1:Int)==0)=true then _ else _) _ _ s;rw[if_neg (by decide)];refine wpAny_bind (kT pl (wpAny_bind (kT pu (wpAny_bind (wpAny_pure ?_)))));show wpAny _ _ (match Builtin.Slice.sliceAdjust lo hi 1 (n:Int)with|(lo,hi)=>pure (lo,(1:Int),Builtin.Slice.slicePlaces lo hi 1)) _ _ s;rw[sg lo hi n];show wpAny _ _ (pure (((sIx n 0 lo:Nat):Int),(1:Int),Builtin.Slice.slicePlaces ((sIx n 0 lo:Nat):Int) ((sIx n n hi:Nat):Int) 1)) _ _ s;rw[si];exact wpAny_pure h
theorem wO (xs:Array Value) (i k:Nat):((List.range k).filterMap λ(m:Nat)=>xs[((i:Int)+(m:Int)*1).toNat]?).toArray=((xs.toList.drop i).take k).toArray:=by
 have e:(λ(m:Nat)=>xs[((i:Int)+(m:Int)*1).toNat]?)=λm=>xs[i+m]?:=by
  funext m;have:((i:Int)+(m:Int)*1).toNat=i+m:=by omega
  rw[this]
 rw[e];have:=pick_run xs i k;rw[List.filterMap_map]at this;have e2:((λx=>xs[x]?)∘λx=>i+x)=λm=>xs[i+m]?:=rfl;grind
theorem getItem_tuple_cut {lo hi} (ht:IsTup s.heap t items) (hs:s.heap.IsSliceOf sl vl vu .none) (pl:IsPart vl lo) (pu:IsPart vu hi) (hw:¬ (sIx items.size 0 lo=0/\sIx items.size items.size hi=items.size)) (h:Q (.ref s.heap.objs.size) {s with heap:=s.heap.push {cls:=.type "tuple",data:=.seq ((items.toList.drop (sIx items.size 0 lo)).take (sIx items.size items.size hi-sIx items.size 0 lo)).toArray}}) (hsz:items.size<=sizeLine):wpAny (model prog w) A (getItem (.ref t) (.ref sl)) Q E s:=by
 have htake:sizeOk (.seq ((items.toList.drop (sIx items.size 0 lo)).take (sIx items.size items.size hi-sIx items.size 0 lo)).toArray):=by
  show((items.toList.drop (sIx items.size 0 lo)).take (sIx items.size items.size hi-sIx items.size 0 lo)).toArray.size<=sizeLine;rw[size_toArray,List.length_take,List.length_drop,Array.length_toList];omega
 have hj:sIx items.size items.size hi<=items.size:=Ek _ _ (le_refl _) hi;obtain⟨os,hos,hcs,hds⟩:=id hs;have hTs:s.TypeIs (.ref sl) "slice":=⟨os,hos,hcs⟩;unfold getItem;try with_reducible refine wpAny_holding ?_
 first|refine wpAny_bind (wpAny_pure ?_)|skip
 refine wpAny_bind (wpAny_sequenceKey ht.typeIs (by decide) ?_);refine wpAny_bind (wpAny_callSpecial?_slot (name:=Str.ofString "__getitem__") ht.typeIs PyProof.Rows.slot_tuple_getitem
  (wpAny_call_entry PyProof.Rows.slot_tuple_getitem ht.typeIs entry_tuple_getitem ?_ (args_tuple_getitem _ _)))
 show wpAny _ _ (Builtin.Tuple.tupleItemsOf (.ref t)>>=_) _ _ s;refine wpAny_bind (tupleItemsOf_ ht ?_);refine wpAny_bind (wpAny_typeOf hTs ?_);rw[if_pos (by decide)];refine wpAny_bind (sliceApplied_gen hs pl pu ?_);have hno:¬ ((((sIx items.size 0 lo:Nat):Int)==0&&(1:Int)==1&&(sIx items.size items.size hi-sIx items.size 0 lo)==items.size)=true):=by
  intro q;rw[and_eq_true,and_eq_true]at q;have q1:((sIx items.size 0 lo:Nat):Int)=0:=eq_of_beq q.1.1;have q2:sIx items.size items.size hi-sIx items.size 0 lo=items.size:=eq_of_beq q.2;exact hw ⟨by omega,by omega⟩
 show wpAny _ _ (if(((sIx items.size 0 lo:Nat):Int)==0&&(1:Int)==1&&(sIx items.size items.size hi-sIx items.size 0 lo)==items.size)=true then _ else _) _ _ s;rw[if_neg hno,wO];first
  |exact wpAny_bind (m:=Builtin.Tuple.tupleExact _) (wpAny_newObj_type (wpAny_pure ⟨_,rfl,wpAny_pure h⟩) htake)
  |exact wpAny_bind (m:=Builtin.Tuple.tupleExact _) (wpAny_newObj_type (wpAny_bind (wpAny_pure (wpAny_pure ⟨_,rfl,wpAny_pure h⟩))) htake)
  |exact wpAny_bind (wpAny_bind (m:=Builtin.Tuple.tupleExact _) (wpAny_newObj_type (wpAny_pure (wpAny_pure ⟨_,rfl,wpAny_pure h⟩)) htake))
  |exact wpAny_bind (wpAny_bind (m:=Builtin.Tuple.tupleExact _) (wpAny_newObj_type (wpAny_pure ⟨_,rfl,wpAny_pure h⟩) htake))
end
end HT
namespace L2
open PySem PySem.Spec PyProof.Rows
abbrev TO:=St->Hp->(Option Int->Hp->Prop)->Prop
def PO (X:Cx) (e:Option Expr) (t:TO):Prop:=
 ∀ (pins:List (Addr×Obj)) (s:Shared) (σ:St) (H:Hp) (Q:Option Int->Hp->Prop),Inv X pins σ H s->t σ H Q->
  wpAny (model X.prog X.w) X.A (evalPart e X.env) (λu s'=>∃o H',Inv X pins σ H' s'/\IsPart u o/\Q o H') X.xe s
def AT:TO:=λ_ H Q=>Q none H
def HE (t:TE):TO:=λσ H Q=>t σ H λx H1=>∃i,x=.int i/\Q (some i) H1
section
variable {X:Cx} {e:Expr} {te:TE} {lo hi:Option Expr} {tl th:TO} {pos p2:Pos}
theorem po_none:PO X none AT:=by
 intro pins s σ H Q I h;rw[evalPart_none];exact wpAny_pure ⟨none,H,I,.none,h⟩
theorem AU (h:PE X e te):PO X (some e) (HE te):=by
 intro pins s σ H Q I hw;rw[evalPart_some];refine thn (h pins s σ H _ I hw) λu s1 ⟨x,H1,I1,r1,q1⟩=>?_;obtain⟨i,rfl,q⟩:=q1;obtain⟨t,rfl⟩:=r1;exact⟨some i,H1,I1,.int i t,q⟩
noncomputable def SlR (X:Cx) (r:V->Option Int->Option Int->Hp->VK->Prop):Prop:=
 ∀ (pins:List (Addr×Obj)) (s:Shared) (σ:St) (H:Hp) (x:V) (v vl vu:Value) (lo hi:Option Int) (sl:Addr) (Q:VK),Inv X pins σ H s->RelV x v->s.heap.IsSliceOf sl vl vu .none->IsPart vl lo->IsPart vu hi->r x lo hi H Q->
  ∃T id,typeLookup (.type T) "__getitem__"=pure (some (.builtin id))/\s.TypeIs v T/\wpAny (model X.prog X.w) X.A (getItem v (.ref sl)) (EP X pins σ Q) X.xe s
theorem SlR.or (h:SlR X r) (h':SlR X r'):SlR X (λx lo hi H Q=>r x lo hi H Q\/r' x lo hi H Q):=by
 intro pins s σ H x v vl vu lo hi sl Q I rx hs pl pu q;rcases q with q|q
 ·exact h pins s σ H x v vl vu lo hi sl Q I rx hs pl pu q
 ·exact h' pins s σ H x v vl vu lo hi sl Q I rx hs pl pu q
def tSl (r:V->Option Int->Option Int->Hp->VK->Prop) (te:TE) (tl th:TO):TE:=λσ H Q=>te σ H λx H1=>tl σ H1 λl H2=>th σ H2 λu H3=>r x l u H3 Q
theorem qj (hr:SlR X r) (he:PE X e te) (hl:PO X lo tl) (hu:PO X hi th):PE X (.Subscript e (.Slice lo hi none p2) pos) (tSl r te tl th):=by
 intro pins s σ H Q I h;refine Subscript_ (thn (he pins s σ H _ I h) λv s1 ⟨x,H1,I1,r1,q1⟩=>?_);refine wpAny_Slice (thn (hl pins s1 σ H1 _ I1 q1) λvl s2 ⟨l,H2,I2,pl,q2⟩=>thn (hu pins s2 σ H2 _ I2 q2) λvu s3 ⟨u,H3,I3,pu,q3⟩=>?_);rw[evalPart_none];refine wpAny_pure ?_;have I4:Inv X pins σ H3 {s3 with heap:=s3.heap.push {cls:=.type "slice",data:=.fields #[vl,vu,.none]}}:=I3.kept (t':=s3.toks) λb ob q=>Heap.get?_push_of_some _ q;obtain⟨T,id,hT,ht,hg⟩:=hr pins {s3 with heap:=s3.heap.push {cls:=.type "slice",data:=.fields #[vl,vu,.none]}} σ H3 x v vl vu l u s3.heap.objs.size Q I4 r1 (Heap.IsSliceOf.new ..) pl pu q3;show wpAny (model X.prog X.w) X.A (subscriptTail e (.Slice lo hi none p2) v (.ref s3.heap.objs.size)) (EP X pins σ Q) X.xe {s3 with heap:=s3.heap.push {cls:=.type "slice",data:=.fields #[vl,vu,.none]}};exact tail_any (ops:=[.ref s3.heap.objs.size,v]) ht hT hg (by with_unfolding_all rfl)
def qk (xs:List V) (lo hi:Option Int):List V:=(xs.drop (HT.sIx xs.length 0 lo)).take (HT.sIx xs.length xs.length hi-HT.sIx xs.length 0 lo)
theorem jG (xs:List V) (lo hi:Option Int):(qk xs lo hi).length<=xs.length:=by grind [qk]
def KR (K:Frag):V->Option Int->Option Int->Hp->VK->Prop:=λx lo hi H Q=>∃a xs,x=.ref a/\SqT K H a xs/\
 ¬ (HT.sIx xs.length 0 lo=0/\HT.sIx xs.length xs.length hi=xs.length)/\∀p,H p=none->Q (.ref p) (upd H p (.tup (qk xs lo hi)))
theorem sl_tup:SlR X (KR X.K):=by
 intro pins s σ H x v vl vu lo hi sl Q I rx hs pl pu h;obtain⟨a,xs,rfl,hx,hw,q⟩:=h;cases rx;obtain⟨its,r,ht,hz⟩:=I.tuple hx;have hlen:its.toArray.size=xs.length:=by rw[size_toArray];exact r.length.symm
 refine⟨"tuple",_,PyProof.Rows.slot_tuple_getitem.lookup,ht.typeIs,?_⟩;refine HT.getItem_tuple_cut ht hs pl pu (by rw[hlen];exact hw) ?_ (by rw[hlen];exact hz);rw[hlen];refine⟨.ref s.heap.objs.size,_,I.laid (t':=s.toks) (o:=.tup (qk xs lo hi)) (λb ob q=>Heap.get?_push_of_some _ q) (le_refl _) ?_,rfl,q _ (I.hok.fresh (le_refl _))⟩;exact⟨Nat.le_trans (jG xs lo hi) hz,_,(r.drop (HT.sIx xs.length 0 lo)).take (HT.sIx xs.length xs.length hi-HT.sIx xs.length 0 lo),IsTup.new _ _⟩
def Dj (K:Frag):R2:=λx y H Q=>∃a b xs ys,x=.ref a/\y=.ref b/\SqT K H a xs/\SqT K H b ys/\xs≠[]/\xs.length+ys.length<=sizeLine/\
 (ys=[]->Q (.ref a) H)/\(ys≠[]->∀p,H p=none->Q (.ref p) (upd H p (.tup (xs++ys))))
theorem Vals.nil_iff (r:Vals xs us):us=[]↔xs=[]:=by
 cases r with
 |nil=>simp
 |cons _ _=>simp
theorem AV:OpR X (binaryOp .Add) (Dj X.K):=by
 intro pins s σ H x y v u Q I rx ry h;obtain⟨a,b,xs,ys,rfl,rfl,ha,hb,hx,hz,q1,q2⟩:=h;cases rx;cases ry;obtain⟨its,r1,p1,_⟩:=I.tuple ha;obtain⟨its2,r2,p2,_⟩:=I.tuple hb;refine HT.cat_tup p1 p2 (λz=>hx (r1.nil_iff.mp z)) (λz=>⟨.ref a,H,I,rfl,q1 (r2.nil_iff.mp z)⟩) (λz=>?_) (by rw[<-r1.length,<-r2.length];exact hz);refine⟨.ref s.heap.objs.size,_,I.laid (t':=s.toks) (o:=.tup (xs++ys)) (λb ob q=>Heap.get?_push_of_some _ q) (le_refl _) ?_,rfl,q2 (λw=>z (r2.nil_iff.mpr w)) _ (I.hok.fresh (le_refl _))⟩;exact⟨by rw[length_append];exact hz,_,r1.append r2,IsTup.new _ _⟩
end
def ixN (n:Nat) (i:Int):Option Nat:=if 0<=i then(if i<n then some i.toNat else none)else if -(n:Int)<=i then some (i+n).toNat else none
def atI {α:Type} (xs:List α) (i:Int):Option α:=(ixN xs.length i).bind λj=>xs[j]?
theorem AW (h:ixN n i=some j):seqIndex? i n=some j/\j<n/\ -(n:Int)<=i/\i<n:=by
 unfold ixN at h;by_cases h0:0<=i
 ·rw[if_pos h0]at h;by_cases h1:i<n
  ·rw[if_pos h1]at h;have e:i.toNat=j:=Option.some.inj h;exact⟨by rw[seqIndex_of h0 h1,e],by omega,by omega,h1⟩
  ·rw[if_neg h1]at h;cases h
 ·rw[if_neg h0]at h;by_cases h1:-(n:Int)<=i
  ·rw[if_pos h1]at h;have e:(i+n).toNat=j:=Option.some.inj h;exact⟨by rw[seqIndex_neg (by omega) h1,e],by omega,h1,by omega⟩
  ·rw[if_neg h1]at h;cases h
theorem oB {v:α} (h:atI xs i=some v):∃j,seqIndex? i xs.length=some j/\xs[j]?=some v/\j<xs.length/\ -(xs.length:Int)<=i/\i<xs.length:=by
 unfold atI at h;cases e:ixN xs.length i with
 |none=>rw[e]at h;cases h
 |some j=>
  rw[e]at h;obtain⟨h1,h2,h3,h4⟩:=AW e;exact⟨j,h1,h,h2,h3,h4⟩
def kn (b:Expr):Prop:=∀o i,subscripted b false o i=operate [o,i] (getItem o i)
noncomputable def IxR (X:Cx) (r:R2):Prop:=
 ∀ (value slice:Expr) (pins:List (Addr×Obj)) (s:Shared) (σ:St) (H:Hp) (x y:V) (v u:Value) (Q:VK),Inv X pins σ H s->RelV x v->RelV y u->r x y H Q->
  subscripted slice false v u=operate [v,u] (getItem v u)->wpAny (model X.prog X.w) X.A (subscriptTail value slice v u) (EP X pins σ Q) X.xe s
def MtR (X:Cx) (id:String) (r:V->List V->Hp->VK->Prop):Prop:=
 ∀ (pins:List (Addr×Obj)) (s:Shared) (σ:St) (H:Hp) (x:V) (xs:List V) (v:Value) (us:List Value) (Q:VK),Inv X pins σ H s->RelV x v->Vals xs us->r x xs H Q->
  wpAny (model X.prog X.w) X.A (call (.builtin id) (v::us)) (EP X pins σ Q) X.xe s
section
variable {X:Cx} {a b:Expr} {ta tb:TE} {pos:Pos}
theorem IxR.or (h:IxR X r) (h':IxR X r'):IxR X (λx y H Q=>r x y H Q\/r' x y H Q):=by
 intro value slice pins s σ H x y v u Q I rx ry q hs;rcases q with q|q
 ·exact h value slice pins s σ H x y v u Q I rx ry q hs
 ·exact h' value slice pins s σ H x y v u Q I rx ry q hs
theorem Dk (hr:IxR X r) (ha:PE X a ta) (hb:PE X b tb) (hs:kn b):PE X (.Subscript a b pos) (tOp r ta tb):=by
 intro pins s σ H Q I h;exact Subscript_ (Ea ha hb I h λv u s2 x y H2 I2 rx ry q=>hr a b pins s2 σ H2 x y v u Q I2 rx ry q (hs _ _))
def HF (K:Frag):R2:=λx y H Q=>∃p xs i v,x=.ref p/\y=.int i/\SqL K H p xs/\atI xs i=some v/\Q v H
def HG (K:Frag):R2:=λx y H Q=>∃p xs i v,x=.ref p/\y=.int i/\SqT K H p xs/\atI xs i=some v/\Q v H
def HH:R2:=λx y H Q=>∃z i c,x=.str z/\y=.int i/\z.length<=sizeLine/\atI z.cps.toList i=some c/\Q (.str ⟨#[c]⟩) H
theorem ix_list:IxR X (HF X.K):=by
 intro value slice pins s σ H x y v u Q I rx ry h hs;obtain⟨p,xs,i,z,rfl,rfl,hq,he,q⟩:=h;cases rx;obtain⟨t,rfl⟩:=ry;obtain⟨its,r,pl,hz⟩:=I.list hq;obtain⟨j,h1,h2,h3,h4,h5⟩:=oB he;obtain⟨w,ew,rw'⟩:=r.get h2;have hl:=r.length;have hn:=kR;have fin:EP X pins σ Q w s:=⟨z,H,I,rw',q⟩;by_cases h0:0<=i
 ·have hj:i.toNat=j:=by
   rw[seqIndex_of h0 h5]at h1;exact Option.some.inj h1
  exact item_listR pl.isList h0 (by omega) (by rw[hj];simpa using ew) fin hs
 ·have hj:(i+(its.toArray.size:Int)).toNat=j:=by
   rw[seqIndex_neg (by omega) h4]at h1;rw[size_toArray,<-hl];exact Option.some.inj h1
  exact subscriptTail_builtinR (x:=w) pl.isList.typeIs slot_list_getitem.lookup
   (wpAny_getItem_list_neg (Q:=λr s'=>r=w/\EP X pins σ Q r s') pl.isList (by omega) (by rw[size_toArray]<;>omega) (by omega) (by rw[hj];simpa using ew) ⟨rfl,fin⟩) hs
theorem ix_tup:IxR X (HG X.K):=by
 intro value slice pins s σ H x y v u Q I rx ry h hs;obtain⟨p,xs,i,z,rfl,rfl,hq,he,q⟩:=h;cases rx;obtain⟨t,rfl⟩:=ry;obtain⟨its,r,pl,hz⟩:=I.tuple hq;obtain⟨j,h1,h2,h3,h4,h5⟩:=oB he;obtain⟨w,ew,rw'⟩:=r.get h2;have hl:=r.length;have hn:=kR;have fin:EP X pins σ Q w s:=⟨z,H,I,rw',q⟩;exact subscriptTail_builtinR (x:=w) pl.typeIs slot_tuple_getitem.lookup
  (getItem_tuple (j:=j) (Q:=λr s'=>r=w/\EP X pins σ Q r s') pl (by omega) (by omega) (by rw[size_toArray,<-hl];exact h1) (by simpa using ew) ⟨rfl,fin⟩) hs
theorem El:IxR X HH:=by
 intro value slice pins s σ H x y v u Q I rx ry h hs;obtain⟨z,i,c,rfl,rfl,hz,he,q⟩:=h;obtain⟨t,rfl⟩:=rx;obtain⟨t',rfl⟩:=ry;obtain⟨j,h1,h2,h3,h4,h5⟩:=oB he;have hl:z.cps.toList.length=z.length:=by simp[Str.length]
 rw[hl]at h1 h4 h5;have hn:=kR;exact tail_any (typeIs_str s z t) slot_str_getitem.lookup (getItem_str (c:=c) (by
  have e1:decide (i< -(2^63:Int))=false:=decide_eq_false (by omega);have e2:decide (i≥2^63)=false:=decide_eq_false (by omega);rw[e1,e2,Bool.or_false]) (by rw[h1];simpa using h2) ⟨.str ⟨#[c]⟩,H,I.tok _,⟨_,rfl⟩,q⟩) hs
def rIx (K:Frag):R2:=λx y H Q=>HF K x y H Q\/HG K x y H Q\/HH x y H Q
theorem ix_seq:IxR X (rIx X.K):=ix_list.or (ix_tup.or El)
theorem oC (lo hi:Option Int) (n:Nat):(sliceBounds lo hi none n).1=((HT.sIx n 0 lo:Nat):Int)/\(sliceBounds lo hi none n).2.1=((HT.sIx n n hi:Nat):Int)/\(sliceBounds lo hi none n).2.2=1:=by
 refine⟨?_,?_,rfl⟩
 ·cases lo with
  |none=>simp[sliceBounds,HT.sIx]
  |some i=>
   simp only[sliceBounds,HT.sIx,Option.getD_none,show(1:Int)>0 by decide,if_true];by_cases h:i<0
   ·simp only[h,if_true]<;>omega
   ·simp only[h,if_false]<;>omega
 ·cases hi with
  |none=>simp[sliceBounds,HT.sIx]
  |some i=>
   simp only[sliceBounds,HT.sIx,Option.getD_none,show(1:Int)>0 by decide,if_true];by_cases h:i<0
   ·simp only[h,if_true]<;>omega
   ·simp only[h,if_false]<;>omega
theorem mV (its:List Value) (lo hi:Option Int):slicePick its.toArray lo hi none=((its.drop (HT.sIx its.length 0 lo)).take (HT.sIx its.length its.length hi-HT.sIx its.length 0 lo)).toArray:=by
 obtain⟨h1,h2,h3⟩:=oC lo hi its.toArray.size;unfold slicePick;rw[h1,h2,h3];simp only[sliceRange_one,pick_run,size_toArray]<;>rfl
def KS (K:Frag):V->Option Int->Option Int->Hp->VK->Prop:=λx lo hi H Q=>∃a xs,x=.ref a/\SqL K H a xs/\∀p,H p=none->Q (.ref p) (upd H p (.lst (qk xs lo hi)))
theorem AX:SlR X (KS X.K):=by
 intro pins s σ H x v vl vu lo hi sl Q I rx hs pl pu h;obtain⟨a,xs,rfl,hx,q⟩:=h;cases rx;obtain⟨its,r,ht,hz⟩:=I.list hx;have hlen:=r.length;refine⟨"list",_,slot_list_getitem.lookup,ht.isList.typeIs,?_⟩;refine wpAny_getItem_list_slice ht.isList hs pl pu .none (by simp) ?_ (by rw[size_toArray]<;>omega);rw[mV,<-hlen];refine⟨.ref s.heap.objs.size,_,I.laid (t':=s.toks) (o:=.lst (qk xs lo hi)) (λb ob q=>Heap.get?_push_of_some _ q) (le_refl _) ?_,rfl,q _ (I.hok.fresh (le_refl _))⟩;exact⟨Nat.le_trans (jG xs lo hi) hz,_,0,(r.drop (HT.sIx xs.length 0 lo)).take (HT.sIx xs.length xs.length hi-HT.sIx xs.length 0 lo),Heap.get?_push_size _ rfl⟩
def fU:V->Bool
 |.non=>true
 |.bl _=>true
 |.int _=>true
 |.str _=>true
 |_=>false
def eqV:V->V->Bool
 |.non,.non=>true
 |.bl a,.bl b=>a==b
 |.bl a,.int b=>(if a then 1 else 0)==b
 |.int a,.bl b=>a==(if b then 1 else 0)
 |.int a,.int b=>a==b
 |.str a,.str b=>a==b
 |_,_=>false
theorem wP (ry:RelV y u) (rx:RelV x v) (fy:fU y=true) (fx:fU x=true):SeqAt.EqAt A s u v (eqV y x):=by
 cases y with
 |non=>
  cases ry;cases x with
  |non=>cases rx;exact SeqAt.EqAt.same _
  |bl b=>cases rx;exact SeqAt.EqAt.none_bool b
  |int b=>obtain⟨t,rfl⟩:=rx;exact SeqAt.EqAt.none_int b t
  |str b=>obtain⟨t,rfl⟩:=rx;exact SeqAt.EqAt.none_str b t
  |_=>exact absurd (show false=true from fx) Bool.false_ne_true
 |bl a=>
  cases ry;cases x with
  |non=>cases rx;exact SeqAt.EqAt.bool_none a
  |bl b=>cases rx;exact SeqAt.EqAt.bool_bool a b
  |int b=>obtain⟨t,rfl⟩:=rx;exact SeqAt.EqAt.bool_int a b t
  |str b=>obtain⟨t,rfl⟩:=rx;exact SeqAt.EqAt.bool_str a b t
  |_=>exact absurd (show false=true from fx) Bool.false_ne_true
 |int a=>
  obtain⟨t',rfl⟩:=ry;cases x with
  |non=>cases rx;exact SeqAt.EqAt.int_none a t'
  |bl b=>cases rx;exact SeqAt.EqAt.int_bool a t' b
  |int b=>obtain⟨t,rfl⟩:=rx;exact SeqAt.EqAt.int_int a t' b t
  |str b=>obtain⟨t,rfl⟩:=rx;exact SeqAt.EqAt.int_str a t' b t
  |_=>exact absurd (show false=true from fx) Bool.false_ne_true
 |str a=>
  obtain⟨t',rfl⟩:=ry;cases x with
  |non=>cases rx;exact SeqAt.EqAt.str_none a t'
  |bl b=>cases rx;exact SeqAt.EqAt.str_bool a t' b
  |int b=>obtain⟨t,rfl⟩:=rx;exact SeqAt.EqAt.str_int a t' b t
  |str b=>obtain⟨t,rfl⟩:=rx;exact SeqAt.EqAt.str_str a t' b t
  |_=>exact absurd (show false=true from fx) Bool.false_ne_true
 |_=>exact absurd (show false=true from fy) Bool.false_ne_true
def eqU (x:V) (u:Value):Bool:=match u with
 |.none=>eqV .non x
 |.bool b=>eqV (.bl b) x
 |.int i _=>eqV (.int i) x
 |.str z _=>eqV (.str z) x
 |_=>false
theorem wQ (r:RelV y u) (f:fU y=true):eqU x u=eqV y x:=by
 cases y with
 |non=>cases r;rfl
 |bl b=>cases r;rfl
 |int i=>obtain⟨t,rfl⟩:=r;rfl
 |str z=>obtain⟨t,rfl⟩:=r;rfl
 |_=>exact absurd (show false=true from f) Bool.false_ne_true
theorem oE:∀ {xs:List V} {us:List Value},Vals xs us->xs.all fU=true->us.any (eqU x)=xs.any λy=>eqV y x
 |_,_,.nil,_=>rfl
 |y::xs,u::us,.cons r t,f=>by
  rw[List.all_cons,and_eq_true]at f;rw[List.any_cons,List.any_cons,wQ r f.1,oE t f.2]
theorem kU (rx:RelV x v) (fx:fU x=true):∀ {xs:List V} {us:List Value},Vals xs us->xs.all fU=true->∀u∈us,SeqAt.EqAt A s u v (eqU x u)
 |_,_,.nil,_=>λu hu=>by cases hu
 |y::xs,u::us,.cons r t,f=>λu' hu=>by
  rw[List.all_cons,and_eq_true]at f;rcases mem_cons.mp hu with rfl|hu
  ·rw[wQ r f.1];exact wP r rx f.1 fx
  ·exact kU rx fx t f.2 u' hu
def inV (x:V) (xs:List V):Bool:=xs.any λy=>eqV y x
def rIn (K:Frag) (neg:Bool):R2:=λx y H Q=>∃p xs,y=.ref p/\(SqL K H p xs\/SqT K H p xs)/\fU x=true/\xs.all fU=true/\Q (.bl (if neg then !inV x xs else inV x xs)) H
theorem vv:OpR X (compareOp .In) (rIn X.K false):=by
 intro pins s σ H x y v u Q I rx ry h;obtain⟨p,xs,rfl,hq,fx,fs,q⟩:=h;cases ry;rcases hq with hq|hq
 ·obtain⟨its,r,pl,hz⟩:=I.list hq;refine SeqAt.in_listAt (eqU x) pl.isList (λw hw=>kU rx fx r fs w (by simpa using hw)) ⟨.bl _,H,I,rfl,?_⟩;rw[show its.toArray.any (eqU x)=its.any (eqU x)by simp,oE r fs];exact q
 ·obtain⟨its,r,pl,hz⟩:=I.tuple hq;refine SeqAt.in_tupleAt (eqU x) pl (λw hw=>kU rx fx r fs w (by simpa using hw)) ⟨.bl _,H,I,rfl,?_⟩;rw[show its.toArray.any (eqU x)=its.any (eqU x)by simp,oE r fs];exact q
theorem call_len_seq:cL X (.builtin "len") (λxs H Q=>∃p ys,xs=[.ref p]/\(SqL X.K H p ys\/SqT X.K H p ys)/\Q (.int ys.length) H):=by
 intro pins s σ H xs us Q I r h;obtain⟨p,ys,rfl,hq,q⟩:=h;obtain⟨u,rfl,rx⟩:=fS r;cases rx;have hn:=kR;rcases hq with hq|hq
 ·obtain⟨its,r',pl,hz⟩:=I.list hq;have hlen:=r'.length;exact Calls.call_len_list pl.isList (by simp only[size_toArray]<;>omega) ⟨.int ys.length,H,I.tok _,⟨s.toks+1,by rw[size_toArray,hlen]⟩,q⟩
 ·obtain⟨its,r',pl,hz⟩:=I.tuple hq;have hlen:=r'.length;exact len_tuple pl (by simp only[size_toArray]<;>omega) ⟨.int ys.length,H,I.tok _,⟨s.toks+1,by rw[size_toArray,hlen]⟩,q⟩
theorem oF:cL X (.type "list") (λxs H Q=>∃p ys,xs=[.ref p]/\(SqL X.K H p ys\/SqT X.K H p ys)/\∀l,H l=none->Q (.ref l) (upd H l (.lst ys))):=by
 intro pins s σ H xs us Q I r h;obtain⟨p,ys,rfl,hq,q⟩:=h;obtain⟨u,rfl,rx⟩:=fS r;cases rx;have fin:∀ (its:List Value),Vals ys its->ys.length<=sizeLine->∀ (h':Heap) (c':Nat),(∀b o',s.heap.get? b=some o'->h'.get? b=some o')->
   h'.get? s.heap.objs.size=some {cls:=.type "list",dict:=none,data:=.seq its.toArray c',slots:=#[]}->EP X pins σ Q (.ref s.heap.objs.size) {s with heap:=h'}:=λits r' hz h' c' kp e=>
  ⟨.ref s.heap.objs.size,_,I.laid (t':=s.toks) kp (le_refl _) (show ObjOk X.prog X.w _ h' _ (.lst ys)from⟨hz,its,c',r',e⟩),rfl,q _ (I.hok.fresh (le_refl _))⟩
 rcases hq with hq|hq
 ·obtain⟨its,r',pl,hz⟩:=I.list hq;have hlen:=r'.length;obtain⟨o,ho,hc,n,hd⟩:=pl.isList;exact call_list_seq p (.inl rfl) ho hc hd (λh' c' kp e=>fin its r' hz h' c' kp e) (by simp only[size_toArray]<;>omega)
 ·obtain⟨its,r',pl,hz⟩:=I.tuple hq;have hlen:=r'.length;obtain⟨o,ho,hc,n,hd⟩:=pl;exact call_list_seq p (.inr rfl) ho hc hd (λh' c' kp e=>fin its r' hz h' c' kp e) (by simp only[size_toArray]<;>omega)
theorem call_tuple_of:cL X (.type "tuple") (λxs H Q=>∃p ys,xs=[.ref p]/\((SqL X.K H p ys/\∀l,H l=none->Q (.ref l) (upd H l (.tup ys)))\/(SqT X.K H p ys/\Q (.ref p) H))):=by
 intro pins s σ H xs us Q I r h;obtain⟨p,ys,rfl,h⟩:=h;obtain⟨u,rfl,rx⟩:=fS r;cases rx;rcases h with⟨hq,q⟩|⟨hq,q⟩
 ·obtain⟨its,r',pl,hz⟩:=I.list hq;have hlen:=r'.length;refine call_tuple_list pl.isList (λh' kp=>?_) (by simp only[size_toArray]<;>omega);have I1:Inv X pins σ H {s with heap:=h'}:=I.kept (t':=s.toks) kp;have I2:Inv X pins σ (upd H h'.objs.size (.tup ys)) {s with heap:=h'.push {cls:=.type "tuple",data:=.seq its.toArray}}:=
   I1.laid (t':=s.toks) (λb o e=>Heap.get?_push_of_some _ e) (le_refl _) (show ObjOk X.prog X.w _ _ _ (.tup ys)from⟨hz,its,r',IsTup.new _ _⟩)
  exact⟨.ref h'.objs.size,_,I2,rfl,q _ (I1.hok.fresh (le_refl _))⟩
 ·obtain⟨its,r',pl,hz⟩:=I.tuple hq;exact call_tuple_same pl ⟨.ref p,H,I,rfl,q⟩
noncomputable def tyV (K:Frag) (T:String) (x:V) (H:Hp):Prop:=match x with
 |.str _=>T="str"
 |.int _=>T="int"
 |.ref p=>(T="list"/\∃xs,SqL K H p xs)\/(T="tuple"/\∃o,K.lookup p=some o/\o.cls=.type "tuple"/\o.dict=none)\/
  (T="dict"/\((∃kvs,H p=some (.dK kvs))\/∃kvs,H p=some (.dT kvs)))\/(T="set"/\∃S n,H p=some (.set S n))
 |_=>False
theorem Em {σ:St} (I:Inv X pins σ H s) (r:RelV x v) (ty:tyV X.K T x H):
  s.TypeIs v T/\∀a,v=.ref a->∃ob,s.heap.get? a=some ob/\ob.dict=none:=by
 cases x with
 |str z=>
  obtain⟨t,rfl⟩:=r;cases(show T="str"from ty);exact⟨typeIs_str s z t,λ_ e=>nomatch e⟩
 |int i=>
  obtain⟨t,rfl⟩:=r;cases(show T="int"from ty);exact⟨typeIs_int s i t,λ_ e=>nomatch e⟩
 |ref p=>
  cases r;rcases ty with⟨rfl,xs,hq⟩|⟨rfl,o,hk,hc,hd⟩|⟨rfl,hk⟩|⟨rfl,S,n,hk⟩
  ·obtain⟨its,_,pl,_⟩:=I.list hq;refine⟨pl.isList.typeIs,λa e=>?_⟩;cases e;obtain⟨o,n,e,c,hd,_⟩:=pl;exact⟨o,e,hd⟩
  ·refine⟨⟨o,I.kIn p o hk,hc⟩,λa e=>?_⟩;cases e;exact⟨o,I.kIn _ o hk,hd⟩
  ·have z:∃o,s.heap.get? p=some o/\o.ExactDict:=by
    rcases hk with⟨kvs,hk⟩|⟨kvs,hk⟩
    ·obtain⟨_,_,_,_,o,_,_,e,ex,_⟩:=I.hok p _ hk;exact⟨o,e,ex⟩
    ·obtain⟨_,_,_,_,o,_,_,e,ex,_⟩:=I.hok p _ hk;exact⟨o,e,ex⟩
   obtain⟨o,e,ex⟩:=z;refine⟨⟨o,e,ex.1⟩,λa e2=>?_⟩;cases e2;exact⟨o,e,ex.2.1⟩
  ·obtain⟨o,_,_,_,e,ex,_⟩:=I.hok p _ hk;refine⟨⟨o,e,ex.1⟩,λa e2=>?_⟩;cases e2;exact⟨o,e,ex.2.1⟩
 |_=>exact False.elim ty
def tBM (K:Frag) (T:String) (r:V->List V->Hp->VK->Prop) (to:TE) (t:TA):TE:=λσ H Q=>to σ H λx H1=>tyV K T x H1/\t σ H1 λxs H2=>r x xs H2 Q
variable {o e:Expr} {es:List Expr} {to:TE} {t:TA} {name:Str} {apos cpos:Pos} {T id:String} {r:V->List V->Hp->VK->Prop}
theorem iF (pa:PlainAttrs T) (slot:Slot T name id) (hty:typeOf (.builtin id)=pure (.type "method_descriptor")) (hm:MtR X id r) (ho:PE X o to) (ha:PA X (e::es) t)
  (hbase:attributeBase o name X.env (eval o X.env)=eval o X.env:=by rfl)
  (hfew:((backTo cpos (starEach (e::es) X.env)).all (λx=>!x.1)&&(backToKw cpos (keywordEach [] X.env)).all (λx=>x.1.isSome)
   &&decide ((e::es).length+([]:List Keyword).length+(if([]:List Keyword).isEmpty then 0 else 1)<30))=true:=by rfl)
  (hline:(apos.endLine==cpos.line)=true:=by rfl) (hs:starEach (e::es) X.env=(false,eval e X.env)::starEach es X.env:=by rfl) (hplain:(backTo cpos (starEach es X.env)).any (·.1)=false:=by rfl):
  PE X (.Call (.Attribute o name apos) (e::es) [] cpos) (tBM X.K T r to t):=by
 intro pins s σ H Q I h
 refine wpAny_Call_method_late hbase hfew hline rfl (thn (ho pins s σ H _ I h) λv s1 ⟨x,H1,I1,r1,ty,q1⟩=>?_)
 obtain⟨h1,h2⟩:=Em I1 r1 ty
 refine⟨T,id,pa,slot,hty,h1,h2,?_⟩
 have hA:=ha cpos pins s1 σ H1 _ I1 q1
 rw[hs]at hA⊢
 refine Calls.callWith_builtin (by show(false||(backTo cpos (starEach es X.env)).any (·.1))=false;rw[hplain]<;>rfl) (Calls.evalArgs_plain ?_)
 exact thn hA λus s2 ⟨vs,H2,I2,r2,q2⟩=>hm pins s2 σ H2 x vs v us Q I2 r1 r2 q2
end
def MtM (X:Cx) (id:String) (r:V->List V->Hp->VK->Prop):Prop:=
 ∀ (pins:List (Addr×Obj)) (s:Shared) (σ:St) (H:Hp) (x:V) (xs:List V) (v:Value) (us:List Value) (Q:VK),Inv X pins σ H s->RelV x v->Vals xs us->r x xs H Q->
  wpAny (model X.prog X.w) X.A (call (.builtin id) (v::us)) (EP X pins σ Q) X.xe s
theorem Vals.one:∀ {x:V} {us:List Value},Vals [x] us->∃u,us=[u]/\RelV x u
 |_,_,.cons r .nil=>⟨_,rfl,r⟩
theorem Vals.eraseIdx:∀ {xs:List V} {us:List Value} (i:Nat),Vals xs us->Vals (xs.eraseIdx i) (us.eraseIdx i)
 |_,_,_,.nil=>.nil
 |_,_,0,.cons _ t=>t
 |_,_,i+1,.cons r t=>.cons r (Vals.eraseIdx i t)
theorem Vals.rep (h:Vals xs us):∀k:Nat,Vals (List.replicate k xs).flatten (List.replicate k us).flatten
 |0=>.nil
 |k+1=>by
  rw[List.replicate_succ,List.replicate_succ,List.flatten_cons,List.flatten_cons];exact Vals.append h (Vals.rep h k)
theorem Hh {α:Type}:∀ (l:List α) (i:Nat),(l.eraseIdx i).length<=l.length:=by grind
theorem nK (its:List Value):∀ (k:Nat) (acc:List Value),
  List.foldl (λx1 x2=>x1++x2) acc.toArray (List.replicate k its.toArray)=(acc++(List.replicate k its).flatten).toArray
 |0,acc=>by simp
 |k+1,acc=>by
  have e:acc.toArray++its.toArray=(acc++its).toArray:=by simp
  have e2:(acc++its)++(List.replicate k its).flatten=acc++(List.replicate (k+1) its).flatten:=by
   rw[List.replicate_succ,List.flatten_cons,List.append_assoc]
  rw[<-e2,<-nK its k (acc++its),<-e,List.replicate_succ,List.foldl_cons]
section
variable {X:Cx} {pins:List (Addr×Obj)} {σ:St} {H:Hp} {s:Shared} {l b:Addr} {xs ys zs:List V}
theorem Inv.lset {its its':List Value} (I:Inv X pins σ H s) (hH:H l=some (.lst xs)) (e:s.heap.get? l=some {cls:=.type "list",data:=.seq its.toArray n}) (hf:f its.toArray=its'.toArray) (hv:Vals ys its') (hz:ys.length<=sizeLine):
  Inv X pins σ (upd H l (.lst ys)) {s with heap:=s.heap.update l (Obj.mapSeq f),toks:=t'}:=by
 have q:=PySem.IsL.update e f
 rw[hf]at q
 refine I.write (x:=l) (e:=l) (by rw[hH];exact trivial) (.inl rfl) (λb' u hb hu=>(Heap.get?_update_other s.heap (Obj.mapSeq f) (Ne.symm hb)).trans hu) ⟨_,q⟩ ?_
 exact⟨hz,its',_,hv,q⟩
theorem Inv.lnew (I:Inv X pins σ H s) (hv:Vals ys its) (hz:ys.length<=sizeLine):
  Inv X pins σ (upd H s.heap.objs.size (.lst ys)) {s with heap:=s.heap.push {cls:=.type "list",data:=.seq its.toArray},toks:=t'}:=
 I.laid (λ_ _ q=>Heap.get?_push_of_some _ q) (le_refl _) ⟨hz,its,0,hv,Heap.get?_push_size _ rfl⟩
theorem Inv.fresh (I:Inv X pins σ H s):H s.heap.objs.size=none:=I.hok.fresh (le_refl _)
theorem Inv.lstM (I:Inv X pins σ H s) (hH:H l=some (.lst xs)):xs.length<=sizeLine/\∃ (its:List Value) (n:Nat),Vals xs its/\xs.length=its.length/\s.heap.get? l=some {cls:=.type "list",data:=.seq its.toArray n}:=by
 obtain⟨z,its,n,r,e⟩:=I.hok l _ hH;exact⟨z,its,n,r,r.length,e⟩
theorem ql (h:n<=sizeLine):Builtin.List.listTooLong n=false:=by
 unfold Builtin.List.listTooLong;grind
end
section
variable {X:Cx}
def AY:V->List V->Hp->VK->Prop:=λx vs H Q=>∃l xs y,x=.ref l/\vs=[y]/\H l=some (.lst xs)/\xs.length<sizeLine/\Q .non (upd H l (.lst (xs++[y])))
theorem je:MtM X "list.append" AY:=by
 intro pins s σ H x vs v us Q I rx rv h;obtain⟨l,xs,y,rfl,rfl,hH,hz,q⟩:=h;cases rx;obtain⟨u,rfl,ru⟩:=rv.one;obtain⟨z,its,n,r,hl,e⟩:=I.lstM hH;refine call_meets F.slot_list_append ⟨_,e,rfl⟩ F.entry_list_append (F.args_list_append_2 _ _) (PySem.list_append l its.toArray n u (by rw[size_toArray];omega)) ⟨e,?_⟩;refine⟨.non,_,I.lset (its':=its++[u]) hH e (by simp) (r.append (.cons ru .nil)) ?_,rfl,q⟩;grind
def Eo:V->List V->Hp->VK->Prop:=λx vs H Q=>∃l xs i k y,x=.ref l/\vs=[.int i]/\H l=some (.lst xs)/\ -(2^63)<=i/\i<2^63/\seqIndex? i xs.length=some k/\xs[k]?=some y/\Q y (upd H l (.lst (xs.eraseIdx k)))
theorem qm:MtM X "list.pop" Eo:=by
 intro pins s σ H x vs v us Q I rx rv h;obtain⟨l,xs,i,k,y,rfl,rfl,hH,h1,h2,hk,hy,q⟩:=h;cases rx;obtain⟨u,rfl,ru⟩:=rv.one;obtain⟨t,rfl⟩:=ru;obtain⟨z,its,n,r,hl,e⟩:=I.lstM hH;obtain⟨w,hw,rw'⟩:=r.get hy;refine call_meets F.slot_list_pop ⟨_,e,rfl⟩ F.entry_list_pop (F.args_list_pop_2 _ _)
  (MeetsSeq.list_pop_at l its.toArray n i t k w (fitsIndex_both h1 h2) (by rw[size_toArray,<-hl];exact hk) (by rw[<-Array.getElem?_toList];exact hw) (by rw[size_toArray];omega)) ⟨e,?_⟩
 refine⟨y,_,I.lset (its':=its.eraseIdx k) hH e ?_ (r.eraseIdx k) ?_,rw',q⟩;all_goals grind
def KU:R2:=λx y H Q=>∃l k xs,x=.ref l/\y=.int k/\H l=some (.lst xs)/\ -(2^63)<=k/\k<2^63/\xs.length*k.toNat<=sizeLine/\
 ∀p,H p=none->Q (.ref p) (upd H p (.lst (List.replicate k.toNat xs).flatten))
theorem AZ {α:Type} (xs:List α) (k:Nat):(List.replicate k xs).flatten.length=k*xs.length:=by simp
theorem Ep:OpR X (binaryOp .Mult) KU:=by
 intro pins s σ H x y v u Q I rx ry h;obtain⟨l,k,xs,rfl,rfl,hH,h1,h2,hz,q⟩:=h;cases rx;obtain⟨t,rfl⟩:=ry;obtain⟨z,its,n,r,hl,e⟩:=I.lstM hH;have hlen:its.toArray.size*k.toNat<=sizeLine:=by rw[size_toArray,<-hl];exact hz
 have hcap:¬its.toArray.size*k.toNat>(2^63-1)/8:=by
  have:(sizeLine:Nat)<=(2^63-1)/8:=by decide
  omega
 have hfit:¬ (!Builtin.List.listFitsIndex k)=true:=by
  rw[fitsIndex_both h1 h2];exact Bool.false_ne_true
 have hlong:¬Builtin.List.listTooLong (its.toArray.size*k.toNat)=true:=by
  rw[ql hlen];exact Bool.false_ne_true
 have hnew:List.foldl (λx1 x2=>x1++x2) #[] (List.replicate (if its.toArray.isEmpty=true then 0 else k.toNat) its.toArray)=(List.replicate k.toNat its).flatten.toArray:=by
  have f0:∀m:Nat,List.foldl (λx1 x2=>x1++x2) #[] (List.replicate m its.toArray)=(List.replicate m its).flatten.toArray:=λm=>by
   have:=nK its m [];rw[List.nil_append]at this;exact this
  rw[f0];cases its with
  |nil=>simp
  |cons a r'=>rw[if_neg (by simp)]
 refine wpAny_binaryOp_repeat_ref (T:="list") (U:="int") (by decide) ⟨_,e,rfl⟩ (λs'=>typeIs_int s' k t) noFill_list_mul F.fills_int_mul F.slot_int_rmul repeat_list F.slot_int_index.lookup
  (call_meets F.slot_int_rmul (typeIs_int s k t) F.entry_int_rmul (F.args_int_rmul_2 _ _) (int___rmul___int_list k t l its.toArray n)
   ⟨e,rfl,⟨_,e,rfl⟩,call_meets F.slot_list_mul ⟨_,e,rfl⟩ F.entry_list_mul (F.args_list_mul_2 _ _) (AutoListH.list___mul___list_int_3 l its.toArray n k t hfit hcap hlong) ⟨e,?_⟩⟩)
 rw[hnew];exact⟨.ref _,_,I.lnew (t':=s.toks) (r.rep k.toNat) (by rw[AZ,Nat.mul_comm];exact hz),rfl,q _ I.fresh⟩
end
section
variable {prog:Program} {w:World} {A:Around} {E:Value->Shared->Prop} {s:Shared}
set_option maxRecDepth 100000 in
end
section
variable {X:Cx}
end
end L2
namespace Att
open PySem PySem.W PySem.Calls PyProof.Rows
theorem j7:∀ (ns:List Int) (vs:List Value),WellAll P h vs (ns.map WData.int)->IntsAre vs ns:=by
 intro ns;induction ns with
 |nil=>
  intro vs w;rw[List.map_nil]at w;cases w;exact .nil
 |cons n ns ih=>
  intro vs w;rw[List.map_cons]at w;cases w with
  |cons a b=>
   cases a;exact .cons _ _ (ih _ b)
theorem vx {l:OpenLaw} (hn:l.most=some n) (hpre:l.row.toRowW.claim.pre args=true) (hwl:WellAll P h vals args):
  ∃a vs ns,vals=[Value.ref a]/\args=[WData.list (ns.map WData.int)]/\h.get? a=some {cls:=.type "list",data:=.seq vs.toArray}/\IntsAre vs ns/\ns.length<=n:=by
 have hsh:WShape.hasAll [] args [.list .int]=true:=(pre_splitW hpre).1
 have hc:l.pre.holds [] {args:=args}=true:=(pre_splitW hpre).2
 obtain⟨d,r,rfl,h1,h2⟩:=hasAllW_cons hsh
 obtain rfl:=hasAllW_nil h2
 obtain⟨xs,rfl,h3⟩:=hasW_list h1
 obtain⟨ns,rfl⟩:=items_int h3
 have hlen:ns.length<=n:=by
  unfold OpenLaw.pre at hc;have h4:(WTm.not (.lt (.lit (.int (n:Int))) (.len (.arg 0)))).holds [] {args:=[.list (ns.map .int)]}=true:=by
   have h4:=(holds_andW hc).1;rw[hn]at h4;exact h4
  have h5:=condW_of h4 (w_not (w_lt w_lit (w_len_list (w_arg rfl))));rw[length_map]at h5;refine Nat.le_of_not_lt λq=>?_;have q':(n:Int)<((ns.length:Nat):Int):=by omega
  first
   |(rw[decide_eq_true q']at h5;exact absurd h5 (by decide))
   |(simp at h5;omega)
 cases hwl with
 |cons w1 w2=>
  cases w2;cases w1 with
  |list ho hall=>exact⟨_,_,ns,rfl,rfl,ho,j7 ns _ hall,hlen⟩
theorem vy (l:OpenLaw) (args:List WData):l.row.toRowW.claim.post args (.bool true) args=true:=
 postW_of (r:=l.row.toRowW) (X:=(true==true))
  (show WShape.has [] (.bool true) .bool=true by first|rfl|decide|simp[WShape.has,WShape.arms,WShape.armsAll])
  (show(WTm.eq .res (.lit (.bool true))).value [] {args:=args,res:=some (.bool true),after:=args}=some (.bool (true==true))from w_eq_bool (w_res rfl) w_lit) rfl
theorem attach_call {l:OpenLaw} (hn:l.most=some n) (hdf:d.params.defaults=[]) (call:∀ (w:World) (s₀ s₁:Shared) (mg mb:Str->Option Value) (fa:Addr) (o:Obj) (pm cd doc:Value) (a:Addr) (vs:List Value) (ns:List Int),
   Ground q loose [] XP w s₀ mg mb s₁.heap->YP w s₁.heap->
   s₁.heap.get? fa=some o->o.data=.func (docDef d.name d.params d.body d.scope pm cd doc)->s₁.heap.CodeRec cd d.name->mg d.name=some (.ref fa)->
   s₁.heap.get? a=some {cls:=.type "list",data:=.seq vs.toArray}->IntsAre vs ns->ns.length<=n->s₁.gens=#[]->
   codeAny (model l.prog w) callerA (.call (.ref fa) ⟨[.ref a],[]⟩) (λr s'=>r=.ok (.ret (.bool true))/\OldK s₁.heap s'.heap/\s'.os=s₁.os/\AllBare s'.gens) s₁):
  WalkO q loose XP YP l.row.toRowW d [] (λf vs=>PySem.call f vs):=by
 intro w s₀ s₁ mg mb G ρ fa o pm cd doc dV kV ho hd hcd hD hmg hg args vals as hpre hlay hrd hwl hlo
 obtain rfl:dV=.none:=Dflts.none hD hdf
 obtain rfl:kV=.none:=Dflts.noKw hD
 obtain⟨a,vs,ns,rfl,rfl,hobj,hints,hlen⟩:=vx hn hpre hwl
 refine enter_call (codeAny_mono (call w s₀ s₁ mg mb fa o pm cd doc a vs ns G ρ ho (fd_plain hd) hcd hmg hobj hints hlen hg) λr s' hq=>?_)
 obtain⟨rfl,h2,h3,h4⟩:=hq
 exact⟨.inl ⟨.bool true,.bool true,[],rfl,λ_=>rfl,.bool true,vy l _,λ_=>⟨List.Pairwise.nil,λ_ hm=>(nomatch hm)⟩⟩,h2,h3,h4⟩
section
variable {prog:Program} {w:World} {A:Around} {E:Value->Shared->Prop} {s:Shared} {K:Frag}
end
end Att
namespace L2
open PySem PySem.Spec PyProof.Rows
theorem nL:∀ {vs:List Value} {ns:List Int},IntsAre vs ns->Vals (ns.map V.int) vs
 |_,_,.nil=>.nil
 |_,_,.cons n t h=>.cons ⟨t,rfl⟩ (nL h)
def Er (H:Hp):Prop:=∀b,H b=none\/∃o xs,H b=some (.frz o (.lst xs))
theorem wR {K} (KX:K.In s₁.heap) (hns:s₁.heap.Ns mainGlobals mg) (hb:s₁.heap.Ns builtinsNs mb) (hbb:∀x:Str,x≠"__name__" ->mb x=bootBuiltins x) (hlim:s₁.heap.NoLimit) (hg:s₁.gens=#[]) (ha:s₁.heap.get? a=some {cls:=.type "list",data:=.seq vs.toArray}) (hi:IntsAre vs ns) (hl:ns.length<=sizeLine) (hr:Room k callerA) (F:∀base:Heap,K.In base->base.Ns mainGlobals mg->FnOk P w K mg base CX k fa fd [x] sp) (hbind:∀ (s:Shared) (u:Value),BindsTo s fd ⟨[u],[]⟩ [(x,u)]) (hsp:∀H:Hp,Er H->SqL K H a (ns.map V.int)->sp [.ref a] H (λv _=>v=.bl true) λ_ _ _=>False) (hCX:∀H e s',CX [] H s₁ (λ_ _ _=>False) e s'->False):
  codeAny (model P w) callerA (.call (.ref fa) ⟨[.ref a],[]⟩) (λr s'=>r=.ok (.ret (.bool true))/\OldK s₁.heap s'.heap/\s'.os=s₁.os/\AllBare s'.gens) s₁:=by
 have rv:=nL hi
 have lenV:=hi.length
 -- from an abstract heap in which nothing but the script may be tracked
 have core:∀H:Hp,Er H->SqL K H a (ns.map V.int)->HOk P w H s₁.heap->(∀b,H b≠none->b=a)->(H a≠none->K.lookup a=none)->
   codeAny (model P w) callerA (.call (.ref fa) ⟨[.ref a],[]⟩) (λr s'=>r=.ok (.ret (.bool true))/\OldK s₁.heap s'.heap/\s'.os=s₁.os/\AllBare s'.gens) s₁:=by
  intro H hO hS hok hA hK
  have base_of:∀ {b:Addr} {o:Obj},s₁.heap.get? b=some o->H b=none->(oA s₁.heap H).get? b=some o:=λe n=>wx e n
  have noA:∀ {b:Addr} {o:Obj} {es:Array DictEntry} {ep:Nat},s₁.heap.get? b=some o->o.data=.dict es ep->H b=none:=λ{b o es ep} e d=>by
   cases q:H b with
   |none=>rfl
   |some u=>
    have e':b=a:=hA b (by rw[q];simp)
    subst e'
    rw[ha]at e;cases e
    have d':Data.seq vs.toArray _=Data.dict es ep:=d
    cases d'
  have nsK:∀ {b:Addr} {m:Str->Option Value},s₁.heap.Ns b m->(oA s₁.heap H).Ns b m:=λ{b m} ⟨o,es,ep,e,d,r⟩=>⟨o,es,ep,base_of e (noA e d),d,r⟩
  have hKb:K.In (oA s₁.heap H):=λb o e=>base_of (KX b o e) (by
   cases q:H b with
   |none=>rfl
   |some u=>
    have e':b=a:=hA b (by rw[q];simp)
    subst e'
    rw[hK (by rw[q];simp)]at e;cases e)
  have hM:Mod K mg (oA s₁.heap H):=⟨hKb,nsK hns,⟨mb,nsK hb,hbb⟩,let⟨mc,h1,h2⟩:=hlim;⟨mc,nsK h1,h2⟩⟩
  have e0:Env0 P w K mg (oA s₁.heap H) callerA [] s₁ H:=⟨rfl,hM,λb o e=>AJ e,Nat.le_of_eq (vk _ _),trivial,λb hb=>absurd (show b∈([]:List Addr)from hb) (by simp),hok,.of_eq hg⟩
  refine codeAny_mono ((F _ hKb (nsK hns)).run callerA [] s₁ H ⟨[.ref a],[]⟩ [.ref a] [.ref a] _ _ hr e0 (hbind s₁ (.ref a)) (.cons rfl .nil) (hsp H hO hS)) λr s' h=>?_
  cases r with
  |error e=>exact(hCX H e s' h).elim
  |ok fl=>
   cases fl with
   |next=>exact False.elim h
   |brk=>exact False.elim h
   |cont=>exact False.elim h
   |ret u=>
    obtain⟨v,H',os,bare,un,hok',r',q⟩:=h
    have q':v=.bl true:=q
    subst q'
    obtain rfl:u=Value.bool true:=r'
    refine⟨rfl,OldK.of_keep λb o e=>?_,os,bare⟩
    cases q:H b with
    |none=>exact un.keep b o e q (by intro z;exact absurd (show b∈([]:List Addr)from z) (by simp)) (by simp)
    |some u=>
     rcases hO b with z|⟨ob,xs,z⟩
     ·rw[q]at z;cases z
     ·have z2:=un.frzs b ob _ z
      obtain⟨e1,_⟩:=hok b _ z
      obtain⟨e2,_⟩:=hok' b _ z2
      rw[e]at e1;cases e1
      exact e2
 cases hk:K.lookup a with
 |some o=>
  -- the script is one of the module's own objects
  have e:=KX a o hk
  rw[ha]at e
  cases e
  refine core (λ_=>none) (λ_=>.inl rfl) (.inr ⟨_,vs.toArray,_,hk,rfl,rfl,rfl,by rw[size_toArray,lenV];exact hl,by simpa using rv⟩) (λb u z=>by have z':(none:Option HO)=some u:=z;cases z') (λb z=>absurd rfl z) λz=>absurd rfl z
 |none=>
  refine core (λb=>if b=a then some (.frz {cls:=.type "list",data:=.seq vs.toArray} (.lst (ns.map V.int)))else none) (λb=>?_) (.inl (.inr ⟨{cls:=.type "list",data:=.seq vs.toArray},if_pos rfl⟩)) (λb u z=>?_) (λb z=>?_) λ_=>hk
  ·by_cases hb:b=a
   ·exact .inr ⟨_,_,if_pos hb⟩
   ·exact .inl (if_neg hb)
  ·by_cases hb:b=a
   ·have z':=(if_pos hb).symm.trans z
    cases z'
    subst hb
    exact⟨ha,by rw[length_map];exact hl,vs,_,rv,ha⟩
   ·have z':=(if_neg hb).symm.trans z
    cases z'
  ·by_cases hb:b=a
   ·exact hb
   ·exact absurd (if_neg hb) z
theorem walk_of {l:PySem.W.OpenLaw} {K:Params->Frag} {CX:World->CXT} {sp:World->Sp} (hn:l.most=some n) (hn2:n<=sizeLine) (hdf:d.params.defaults=[]) (hr:Room k callerA) (hY:∀ (w:World) (h:Heap),YP w h->(K w.params).In h) (F:∀ (w:World) (mg:Str->Option Value) (fa:Addr) (h:Heap),(K w.params).In h->h.Ns mainGlobals mg->mg d.name=some (.ref fa)->
   ∃fd:FuncData,(∀ (s:Shared) (u:Value),BindsTo s fd ⟨[u],[]⟩ [(x,u)])/\
    ∀base:Heap,(K w.params).In base->base.Ns mainGlobals mg->FnOk l.prog w (K w.params) mg base (CX w) k fa fd [x] (sp w)) (hsp:∀ (w:World) (H:Hp) (a:Addr) (ns:List Int),ns.length<=n->Er H->SqL (K w.params) H a (ns.map V.int)->sp w [.ref a] H (λv _=>v=.bl true) λ_ _ _=>False) (hCX:∀ (w:World) (H:Hp) (s:Shared) (e:Value) (s':Shared),CX w [] H s (λ_ _ _=>False) e s'->False):
  PySem.W.WalkO q loose XP YP l.row.toRowW d [] (λf vs=>PySem.call f vs):=by
 refine Att.attach_call hn hdf λw s₀ s₁ mg mb fa o pm cd doc a vs ns G ρ ho hd hcd hmg hobj hints hlen hg=>?_
 have KX:=hY w _ ρ
 obtain⟨fd,hb,hF⟩:=F w mg fa _ KX G.T.g hmg
 exact wR KX G.T.g G.T.b G.T.builtins G.T.nolimit hg hobj hints (Nat.le_trans hlen hn2) hr hF hb (λH hO hS=>hsp w H a ns hlen hO hS) λH e s'=>hCX w H s₁ e s'
def A0 (s:Stmt) (j:Nat):Stmt:=match s with
 |.ClassDef _ _ _ body _ _ _ _ _ _ _=>body.getD j (.Pass ⟨0,0,0,0⟩)
 |_=>.Pass ⟨0,0,0,0⟩
def bV (s:Stmt):Arguments:=match s with
 |.FunctionDef _ a _ _ _ _ _ _ _ _=>a
 |_=>{posonlyargs:=[],args:=[],vararg:=none,kwonlyargs:=[],kw_defaults:=[],kwarg:=none,defaults:=[]}
def aK (s:Stmt):List Stmt:=match s with
 |.FunctionDef _ _ b _ _ _ _ _ _ _=>b
 |_=>[]
def aj (s:Stmt):Scope:=match s with
 |.FunctionDef _ _ _ _ _ _ sc _ _ _=>sc
 |_=>{kind:=.function,names:=[],isGenerator:=false,isCoroutine:=false}
abbrev CX0:CXT:=λ_ _ _ _ _ _=>False
abbrev E0:XK:=λ_ _ _=>False
theorem wS:kS CX0 X E0:=λ_ _ _ _ _ _ _ h=>h.elim
structure Fun (K:Frag) (x qual:Str) (st:Stmt) (f:Addr) (fd:FuncData):Prop where
 ex:∃ (oc:Value) (od:Option Addr) (kV doc pm:Value) (an:Option Addr) (cdv ct:Value) (osl:Array (Option Value)),
  fd=PySem.W.fnOf x qual (bV st) (aK st) (aj st) .none kV doc pm an cdv ct/\K.lookup f=some ⟨oc,od,.func fd,osl⟩/\PySem.W.codeIn K cdv qual=true
 kp:PySem.W.keepIn K (.ref f)=true
section
variable {P:Program} {w:World} {K:Frag} {mg:Str->Option Value} {base:Heap}
theorem Fun.ok {st} (F:Fun K x qual st f fd) (S:FnScope N ps (aj st)) (len:∀vs H Q E,sp vs H Q E->vs.length=ps.length) (hbody:∀ (cdv:Value) (A:Around) (outer:List Env) (s:Shared) (H:Hp) (vs:List V) (Q:VK) (E:XK),Room k (A.deeper (envOfC qual (aj st) s.heap.objs.size f cdv))->sp vs H Q E->
  ∃t,PSs (ic CX0 P w K mg base N qual (aj st) f cdv A outer s H E).nox (aK st) t/\t {nx:=λ_ H'=>Q .non H',rt:=Q} (fJ N vs) H):FnOk P w K mg base CX0 (k+1) f fd ps sp:=by
 obtain⟨oc,od,kV,doc,pm,an,cdv,ct,osl,rfl,lk,hcd⟩:=F.ex
 refine Di lk hcd S len λA outer s H vs Q E hr hsp=>?_
 obtain⟨t,h,q⟩:=hbody cdv A outer s H vs Q E hr hsp
 exact⟨t,h.nox,q⟩
theorem Fun.binds {st} (F:Fun K x qual st f fd) (h:∀ (kV doc pm:Value) (an:Option Addr) (cdv ct:Value) (us:List Value),us.length=ps.length->bindArgs (PySem.W.fnOf x qual (bV st) (aK st) (aj st) .none kV doc pm an cdv ct) ⟨us,[]⟩=pure (ps.zip us)):Binds K fd ps []:=by
 obtain⟨oc,od,kV,doc,pm,an,cdv,ct,osl,rfl,lk,hcd⟩:=F.ex;exact .all (h kV doc pm an cdv ct)
theorem kW {st} {kV doc pm cdv ct} (l:K.lookup f=some ⟨oc,od,.func (PySem.W.fnOf x qual (bV st) (aK st) (aj st) .none kV doc pm an cdv ct),osl⟩) (c:PySem.W.codeIn K cdv qual=true) (k:PySem.W.keepIn K (.ref f)=true):Fun K x qual st f (PySem.W.fnOf x qual (bV st) (aK st) (aj st) .none kV doc pm an cdv ct):=⟨⟨oc,od,kV,doc,pm,an,cdv,ct,osl,rfl,l,c⟩,k⟩
end
section
variable {X:Cx}
end
theorem A3 {A B:Prop} (h:B):if false=true then A else B:=by
 rw[if_neg Bool.false_ne_true];exact h
theorem A4 {A B:Prop} (h:A):if true=true then A else B:=by
 rw[if_pos rfl];exact h
def Same (H H':Hp):Prop:=∀b o,H b=some o->H' b=some o
theorem Same.refl (H:Hp):Same H H:=λ_ _ h=>h
theorem Same.trans (a:Same H H1) (b:Same H1 H2):Same H H2:=λc o h=>b c o (a c o h)
theorem Same.free (e:Same H H') (h:H' l=Option.none):H l=Option.none:=by
 cases q:H l with
 |none=>rfl
 |some o=>
  rw[e l o q]at h;cases h
theorem Same.seq {K} (e:Same H H') (h:SqL K H a xs):SqL K H' a xs:=by
 rcases h with(h|⟨o,h⟩)|h
 ·exact .inl (.inl (e _ _ h))
 ·exact .inl (.inr ⟨o,e _ _ h⟩)
 ·exact .inr h
end L2
set_option maxHeartbeats 4000000
noncomputable section
namespace L2
open PySem PySem.Spec PyProof.Rows
theorem PE.imp (h:PE X e t) (k:∀σ H Q,t' σ H Q->t σ H Q):PE X e t':=λpins s σ H Q I q=>h pins s σ H Q I (k _ _ _ q)
theorem PT.imp (h:PT X e t) (k:∀σ H Q,t' σ H Q->t σ H Q):PT X e t':=λpins s σ H Q I q=>h pins s σ H Q I (k _ _ _ q)
theorem PA.imp (h:PA X e t) (k:∀σ H Q,t' σ H Q->t σ H Q):PA X e t':=λpos pins s σ H Q I q=>h pos pins s σ H Q I (k _ _ _ q)
theorem PS.imp {st} (h:PS X st t) (k:∀D σ H,t' D σ H->t D σ H):PS X st t':=λpins s σ H D I q=>h pins s σ H D I (k _ _ _ q)
theorem PSs.imp {st} (h:PSs X st t) (k:∀D σ H,t' D σ H->t D σ H):PSs X st t':=λpins s σ H D I q=>h pins s σ H D I (k _ _ _ q)
theorem PI.imp (h:PI X tg iter t) (k:∀σ H R,t' σ H R->t σ H R):PI X tg iter t':=λpins s σ H R I q=>h pins s σ H R I (k _ _ _ q)
theorem PG.imp (h:PG X tg t) (k:∀v σ H Q,t' v σ H Q->t v σ H Q):PG X tg t':=λpins s σ H v u Q I r q=>h pins s σ H v u Q I r (k _ _ _ _ q)
theorem jH {α β:Type} {f:α->β->Sem (ForInStep β)} {g}:∀ (l:List α) (c:β),(∀x∈l,∀c,f x c=pure (.yield (g c x)))->forIn l c f=pure (l.foldl g c)
 |[],_,_=>rfl
 |x::l,c,h=>by
  rw[List.forIn_cons,h x mem_cons_self,pure_bind];exact jH l _ λy hy=>h y (mem_cons_of_mem _ hy)
def eA (env:Env) (cs:List (Str×Addr)) (x:Str×NameKind):List (Str×Addr):=if x.2==.free then(x.1,(env.cells.lookup x.1).getD 0)::cs else cs
abbrev oG (env:Env) (scope:Scope):List (Str×Addr):=scope.names.foldl (eA env) []
theorem jI (h:(k==NameKind.free)=true):k=.free:=by grind
theorem kX (h:∀y∈scope.names,y.2=.free->∃c,env.cells.lookup y.1=some c):closureFor scope env=pure (oG env scope):=by
 simp only[closureFor];rw[jH (g:=eA env) scope.names [] (λx hx c=>by
  obtain⟨n,k⟩:=x;unfold eA;cases hk:(k==NameKind.free)with
  |false=>simp
  |true=>
   obtain⟨a,e⟩:=h (n,k) hx (jI hk);have e':env.cells.lookup n=some a:=e;simp[cellOf,e'])]
 rfl
theorem dP:∀ (l:List (Str×NameKind)) (cs:List (Str×Addr)),(∀x c,cs.lookup x=some c->env.cells.lookup x=some c)->(∀y∈l,y.2=.free->∃c,env.cells.lookup y.1=some c)->
  ∀x c,(l.foldl (eA env) cs).lookup x=some c->env.cells.lookup x=some c
 |[],_,h,_,x,c,e=>h x c e
 |(n,k)::l,cs,h,hl,x,c,e=>by
  refine dP l (eA env cs (n,k)) (λy d q=>?_) (λy hy=>hl y (mem_cons_of_mem _ hy)) x c e;unfold eA at q;cases hk:(k==NameKind.free)with
  |false=>rw[hk]at q;exact h y d (by simpa using q)
  |true=>
   rw[hk]at q;obtain⟨a,ea⟩:=hl (n,k) mem_cons_self (jI hk);have ea':env.cells.lookup n=some a:=ea;simp only[if_true,List.lookup_cons,ea',Option.getD_some]at q;cases hy:(y==n)with
   |true=>
    rw[hy]at q;have hyn:y=n:=by simpa using hy
    rw[hyn,ea'];exact q
   |false=>rw[hy]at q;exact h y d q
theorem ie:∀ (l:List (Str×NameKind)) (cs:List (Str×Addr)) (x:Str),((x,NameKind.free)∈l\/(cs.lookup x).isSome=true)->((l.foldl (eA env) cs).lookup x).isSome=true
 |[],_,_,h=>by
  rcases h with h|h
  ·cases h
  ·exact h
 |(n,k)::l,cs,x,h=>by
  refine ie l (eA env cs (n,k)) x ?_;rcases h with h|h
  ·rcases mem_cons.mp h with e|h
   ·cases e;refine .inr ?_;unfold eA;simp
   ·exact .inl h
  ·refine .inr ?_;unfold eA;split
   ·rw[List.lookup_cons];split
    ·rfl
    ·exact h
   ·exact h
theorem kY (h:(relabel scope env).names.lookup x=some k):∃k0,(x,k0)∈scope.names/\(k0=k\/(k0=.free/\k=.cell)):=by
 have h':(scope.names.map λ(n,k)=>if(k==NameKind.free&&env.scope.kind==.function&&env.kindOf n==some .cell)then(n,NameKind.cell)else(n,k)).lookup x=some k:=h;have hm:=PySem.mem_of_lookup h';grind
def cxC (X:Cx) (scope:Scope) (C:Addr) (s:Shared) (H:Hp) (fp:List Addr):Cx where
 prog:=X.prog
 w:=X.w
 K:=X.K
 mg:=X.mg
 base:=X.base
 A:=X.A
 N:=X.N
 s₀:=s
 H₀:=H
 env:=compEnvC scope (oG X.env scope) C X.env
 outer:=X.stack
 stack:=X.stack
 ex:=fp
 fn:=λ_=>false
 calm:=X.calm
 pn:=[]
 xe:=λ_ _=>False
structure CSc (X:Cx) (scope:Scope) (ks:List Nat):Prop where
 kind:scope.kind=.function
 nocell:∀y∈scope.names,y.2≠.cell
 names:∀y∈scope.names,y.2=.local->scope.names.lookup y.1=some .local
 free:∀y∈scope.names,y.2=.free->X.env.scope.names.lookup y.1=some .cell\/X.env.scope.names.lookup y.1=some .free
 own:∀ (i:Nat) (x:Str),X.N[i]?=some x->scope.names.lookup x=some .local->i∈ks
def dQ {α:Type} (ks:List Nat) (σ:List (Option α)):List (Option α):=ks.foldl (λσ k=>σ.set k none) σ
theorem iG:∀ (ks:List Nat) (σ:List (Option α)),(dQ ks σ).length=σ.length
 |[],_=>rfl
 |k::ks,σ=>by
  show(dQ ks (σ.set k none)).length=_;rw[iG ks];simp
theorem kZ:∀ (ks:List Nat) (σ:List (Option α)) (i:Nat) (v:α),(dQ ks σ)[i]?=some (some v)->σ[i]?=some (some v)/\i ∉ ks
 |[],_,_,_,h=>⟨h,by simp⟩
 |k::ks,σ,i,v,h=>by
  obtain⟨h1,h2⟩:=kZ ks (σ.set k none) i v h;by_cases hk:k=i
  ·subst hk;rw[List.getElem?_set]at h1;simp only[if_true]at h1;split at h1<;>simp at h1
  ·rw[List.getElem?_set_ne hk]at h1;exact⟨h1,by simp[h2,Ne.symm hk]⟩
theorem qo:∀ (ks:List Nat) (σ:List (Option α)) (i:Nat) (v:α),σ[i]?=some (some v)->i ∉ ks->(dQ ks σ)[i]?=some (some v)
 |[],_,_,_,h,_=>h
 |k::ks,σ,i,v,h,hn=>by
  refine qo ks (σ.set k none) i v ?_ λz=>hn (mem_cons_of_mem _ z);rw[List.getElem?_set_ne (λz=>hn (by simp[z]))];exact h
section
variable {X:Cx} {pins:List (Addr×Obj)} {σ:St} {H:Hp} {s:Shared} {fp:List Addr} {scope:Scope} {ks:List Nat} {C D:Addr}
theorem Inv.cells_of (I:Inv X pins σ H s) (S:CSc X scope ks):∀y∈scope.names,y.2=.free->∃c,X.env.cells.lookup y.1=some c:=λy hy hf=>I.ok.has y.1 (S.free y hy hf)
theorem sj (I:Inv X pins σ H s) (S:CSc X scope ks) (hf:∀b∈fp,ib X pins H b) (hlt:∀b∈fp,b<s.heap.objs.size) (hC:s.heap.objs.size<=C):(cxC X scope C s H fp).Ok where
 mod:=I.ok.mod
 kind:=S.kind
 glob:=I.ok.glob
 blt:=I.ok.blt
 above:=hC
 inj:=λx y c h1 h2=>I.ok.inj x y c (dP _ [] (λ_ _ z=>nomatch z) (I.cells_of S) x c h1) (dP _ [] (λ_ _ z=>nomatch z) (I.cells_of S) y c h2)
 has:=λx hx=>by
  have q:∃k,(relabel scope X.env).names.lookup x=some k/\(k=.cell\/k=.free):=by
   rcases hx with h|h
   ·exact⟨_,h,.inl rfl⟩
   ·exact⟨_,h,.inr rfl⟩
  obtain⟨k,hk,hc⟩:=q;obtain⟨k0,hm,h0⟩:=kY hk;have hfree:k0=.free:=by
   rcases h0 with rfl|⟨h,_⟩
   ·rcases hc with z|z
    ·exact absurd z (S.nocell _ hm)
    ·exact z
   ·exact h
  subst hfree;exact Option.isSome_iff_exists.mp (ie scope.names [] x (.inl hm))
 cab:=λ_ _ z=>absurd z Bool.false_ne_true
 hd:=I.ok.hd
 frames:=I.ok.frames
 stk:=.inl rfl
 exf:=λb hb=>⟨Nat.ne_of_lt (lt_of_lt_of_le (hlt b hb) hC),λx c e=>(hf b hb).2.2.2.2.1 x c (dP _ [] (λ_ _ z=>nomatch z) (I.cells_of S) x c e)⟩
 bs:=I.bs
 bsz:=Nat.le_trans I.ok.bsz I.sz
 noex:=λb o e hb=>by
  rcases(hf b hb).2.2.2.1 with z|z
  ·exact I.ok.noex b o e z
  ·exact absurd (lt_of_lt_of_le (lt_of_lt_of_le (Heap.lt_size e) I.ok.bsz) z) (Nat.lt_irrefl _)
 exfs:=λb hb hs=>by
  rcases mem_cons.mp (I.stkSub b hs)with z|z
  ·exact(hf b hb).2.1 z
  ·exact(hf b hb).2.2.1 z
 funs:=I.stack
 frf:=I.stkFree
theorem vz {its:List Value} (I:Inv X pins σ H s) (S:CSc X scope ks) (hf:∀b∈fp,ib X pins H b) (hlt:∀b∈fp,b<s.heap.objs.size) (hD:s.heap.objs.size<=D) (hC:s.heap.objs.size<=C) (hDC:D≠C) (old:∀b o,s.heap.get? b=some o->h₁.get? b=some o) (hns:h₁.Ns C m) (hacc:h₁.get? D=some {cls:=.type "list",data:=.seq its.toArray n}):
  Inv (cxC X scope C s H fp) [(D,{cls:=.type "list",data:=.seq its.toArray n})] (dQ ks σ) H {s with heap:=h₁,toks:=tk}:=by
 have cs:=dP scope.names [] (λ_ _ z=>nomatch z) (I.cells_of S)
 refine⟨sj I S hf hlt hC,rfl,I.bare,Un.kept old,⟨m,hns,λi x v hN hσ hv=>?_⟩,λx c e=>?_,I.hok.fresh hC,λx c e=>I.freeC x c (cs x c e),λp hp=>?_,I.hok.kept old,?_⟩
 ·obtain⟨h1,h2⟩:=kZ ks σ i v hσ;have hv':∃k,(relabel scope X.env).names.lookup x=some k/\(k=.local\/k=.cell\/k=.free):=by
   rcases hv with h|h|h
   ·exact⟨_,h,.inl rfl⟩
   ·exact⟨_,h,.inr (.inl rfl)⟩
   ·exact⟨_,h,.inr (.inr rfl)⟩
  obtain⟨k,hk,hkk⟩:=hv';obtain⟨k0,hm,h0⟩:=kY hk;have hfree:k0=.free:=by
   rcases h0 with e|⟨h,_⟩
   ·subst e;rcases hkk with z|z|z
    ·exact absurd (S.own i x hN (S.names _ hm z)) h2
    ·exact absurd z (S.nocell _ hm)
    ·exact z
   ·exact h
  subst hfree;have hX:=S.free _ hm rfl;obtain⟨m0,hn0,hl0⟩:=I.loc;obtain⟨u,r,l⟩:=hl0 i x v hN h1 (by rcases hX with z|z;exact .inr (.inl z);exact .inr (.inr z));refine⟨u,r,.inr ⟨?_,?_⟩⟩
  ·have hk2:k=.cell\/k=.free:=by
    rcases h0 with e|⟨_,e⟩
    ·exact .inr e.symm
    ·exact .inl e
   rcases hk2 with e|e
   ·subst e;exact .inl hk
   ·subst e;exact .inr hk
  ·rcases l with⟨hloc,_⟩|⟨_,c,ec,hcell⟩
   ·have hloc':X.env.scope.names.lookup x=some .local:=hloc;rcases hX with z|z
    ·rw[hloc']at z;cases z
    ·rw[hloc']at z;cases z
   ·obtain⟨c',ec'⟩:=Option.isSome_iff_exists.mp (ie (env:=X.env) scope.names [] x (.inl hm));have e2:=cs x c' ec';rw[ec]at e2;cases e2;obtain⟨o,ho,hd⟩:=hcell;exact⟨c,ec',o,old c o ho,hd⟩
 ·obtain⟨v,o,ho,hd⟩:=I.cell x c (cs x c e);exact⟨v,o,old c o ho,hd⟩
 ·have e:p=(D,{cls:=.type "list",data:=.seq its.toArray n}):=by
   have hp':p∈[]++[(D,({cls:=.type "list",data:=.seq its.toArray n}:Obj))]:=hp;simpa using hp'
  subst e;refine⟨hacc,I.hok.fresh hD,hDC,λhb=>?_,λv z=>?_⟩
  ·rcases mem_cons.mp (I.stkSub D hb)with z|z
   ·exact absurd (lt_of_lt_of_le I.lt hD) (by rw[z];exact Nat.lt_irrefl _)
   ·exact I.nofs hD z
  ·have z':Data.seq its.toArray n=Data.cell v:=z;cases z'
 ·show(dQ ks σ).length=X.N.length;rw[iG];exact I.len
theorem HOk.adopt (x:HOk P w H h) (hn:H a=none) (new:ObjOk P w (upd H a o) h a o):HOk P w (upd H a o) h:=λb u q=>by
 by_cases hb:b=a
 ·subst hb;rw[ai]at q;cases q;exact new
 ·rw[ah hb]at q;refine(x b u q).stay (λ_ _ _ z=>z) (λc z=>?_) λc xs z=>?_
  ·rw[ah (av z hn)];exact z
  ·rw[ah (av z hn)];exact z
theorem A5 {σ':St} (I:Inv X pins σ H s) (J:Inv (cxC X scope C s H fp) pl σ' H' s') (hf:∀b∈fp,ib X pins H b) (hD:s.heap.objs.size<=D) (hDn:H' D=none) (hacc:s'.heap.get? D=some {cls:=.type "list",data:=.seq its.toArray n}) (r:Vals ys its) (hz:ys.length<=sizeLine):Inv X pins σ (upd H' D (.lst ys)) s':=by
 have B:Un (frs X.stack) fp H H' s.heap s'.heap:=J.base;have ne:∀b o,s.heap.get? b=some o->b≠D:=λb o e=>Nat.ne_of_lt (lt_of_lt_of_le (Heap.lt_size e) hD);refine I.call' (ch:=fp) J.os ⟨B.keep,B.slot,λb o e q hx=>?_,B.there,λb xs q=>?_,λb o u q=>?_,λb ps q=>?_⟩ (J.hok.adopt hDn ⟨hz,its,n,r,hacc⟩) J.bare λb hb=>?_
 ·rw[ah (ne b o e)];exact B.free b o e q hx
 ·have z:=B.tups b xs q;rw[ah (av z hDn)];exact z
 ·have z:=B.frzs b o u q;rw[ah (av z hDn)];exact z
 ·obtain⟨more,z⟩:=B.tbls b ps q;exact⟨more,by rw[ah (av z hDn)];exact z⟩
 ·obtain⟨_,f1,_,f3,f4,f5⟩:=hf b hb;exact⟨f3,f1,f4,f5⟩
end
noncomputable def PTs (X:Cx) (ifs:List Expr) (t:TT):Prop:=
 ∀ (pins:List (Addr×Obj)) (s:Shared) (σ:St) (H:Hp) (Q:Bool->Hp->Prop),Inv X pins σ H s->t σ H Q->
  wpAny (model X.prog X.w) X.A (forIn ifs true λc r=>if r=true then do let ok<-isTrue c X.env (eval c X.env);pure (ForInStep.yield ok)else pure (ForInStep.yield r)) (TP X pins σ Q) X.xe s
def KW:TT:=λ_ H Q=>Q true H
theorem pts_nil:PTs X [] KW:=λ_ _ _ H _ I h=>wpAny_tests_nil ⟨H,I,h⟩
theorem A6 (h:PT X c t):PTs X [c] t:=λpins s σ H Q I q=>wpAny_tests_one (h pins s σ H Q I q)
section
variable {prog:Program} {w:World} {A:Around} {R:Result->Shared->Prop} {s:Shared}
theorem sk (I:Nat->Shared->Prop) (turn:∀n s,I n s->wpAny (model prog w) A (pyNext it) (λr s1=>match r with
   |none=>R (.ok .next) s1
   |some v=>wpAny (model prog w) A (letOwnedTupleGo tg it v) (λ_ s2=>wpAny (model prog w) A (assign tg env v) (λ_ s3=>
    wpAny (model prog w) A (forIn ifs true λc r=>if r=true then do let ok<-isTrue c env (eval c env);pure (ForInStep.yield ok)else pure (ForInStep.yield r)) (λok s4=>
     if ok=true then wpAny (model prog w) A (eval elt env) (λx s5=>wpAny (model prog w) A (call (.builtin "list.append") [acc,x]) (λ_ s6=>∃m,m<n/\I m s6) (λ_ _=>False) s5) (λ_ _=>False) s4
     else∃m,m<n/\I m s4) (λ_ _=>False) s3) (λ_ _=>False) s2) (λ_ _=>False) s1) (λ_ _=>False) s) (n:Nat) (h:I n s):codeAny (model prog w) A (.compLoop (.ListComp elt [⟨tg,iter,ifs,0⟩] scope pos) 0 it acc env) R s:=by
 refine codeAny_loop rfl I (λk s' hI=>?_) n h
 show wpAny _ A ((compTurn (.ListComp elt [⟨tg,iter,ifs,0⟩] scope pos) 0 it acc env).onRaise (λx=>do noteFrame x env;theTreesLotGoes x)) _ _ s'
 refine wpAny_noted ?_
 rw[compTurn_list]
 refine wpAny_bind (wpAny_standAt (wpAny_bind (wpAny_mono (turn k s' hI) (λr s1 h1=>?_) λ_ _ z=>z.elim)))
 cases r with
 |none=>exact wpAny_pure h1
 |some v=>
  refine wpAny_bind (wpAny_mono h1 (λ_ s2 h2=>?_) λ_ _ z=>z.elim);refine wpAny_bind (wpAny_mono h2 (λ_ s3 h3=>?_) λ_ _ z=>z.elim);refine wpAny_bind (wpAny_mono h3 (λok s4 h4=>?_) λ_ _ z=>z.elim);cases ok with
  |false=>exact wpAny_pure ⟨rfl,h4⟩
  |true=>
   refine wpAny_bind (wpAny_bind (wpAny_mono h4 (λx s5 h5=>?_) λ_ _ z=>z.elim));exact wpAny_bind (wpAny_mono h5 (λ_ s6 h6=>wpAny_pure (wpAny_pure ⟨rfl,h6⟩)) λ_ _ z=>z.elim)
end
def KY (σ σ':St):Prop:=σ'.length=σ.length/\∀ (i:Nat) (v:V),σ[i]?=some (some v)->σ'[i]?=some (some v)
noncomputable def Dl (J:It) (ks:List Nat) (g:TG) (tt:TT) (te:TE) (σ:St) (Fin:List V->Hp->Prop) (W:Nat->Nat->List V->Hp->Prop):Prop:=∀i m ys H2,W i m ys H2->
 (J.stop i H2/\ys.length<=sizeLine/\Fin ys H2)\/
 (J.go i H2/\ys.length<sizeLine/\∀x H3,J.yld i H2 x H3->g x (dQ ks σ) H3 λσ4 H4=>KY (dQ ks σ) σ4/\tt σ4 H4 λc H5=>
  if c=true then te σ4 H5 λy H6=>∃m',m'<m/\W (i+1) m' (ys++[y]) H6 else∃m',m'<m/\W (i+1) m' ys H5)
def qp (wi:TI) (ks:List Nat) (g:TG) (tt:TT) (te:TE):TE:=λσ H Q=>wi σ H λJ H1=>∃W:Nat->Nat->List V->Hp->Prop,(∃m,W 0 m [] H1)/\
 Dl J ks g tt te σ (λys H2=>∀p,H2 p=none->Q (.ref p) (upd H2 p (.lst ys))) W
section
variable {X:Cx} {scope:Scope} {ks:List Nat} {tg elt iter:Expr} {ifs:List Expr} {g:TG} {tt:TT} {te:TE} {pos:Pos}
theorem k9 {σ:St} {RR:Value->Addr->Result->Shared->Prop} {Fin} (hc:X.calm=true) (S:CSc X scope ks) (I2:Inv X pins σ H2 s2) (T:Turn X.prog X.w X.K tg J fp it tn) (st:tn 0 s2.heap) (f2:∀b∈fp,ib X pins H2 b) (hg:∀C s H,PG (cxC X scope C s H fp) tg g) (htt:∀C s H,PTs (cxC X scope C s H fp) ifs tt) (he:∀C s H,PE (cxC X scope C s H fp) elt te) (w0:∃m,W 0 m [] H2) (turn:Dl J ks g tt te σ Fin W) (hR:∀D C H3 s3 m ys,Inv X pins σ (upd H3 D (.lst ys)) s3->H3 D=none->upd H3 D (.lst ys) C=none->C≠X.env.locals->s2.heap.objs.size<=C->s3.heap.Ns C m->Fin ys H3->RR (.ref D) C (.ok .next) s3):
  wpAny (model X.prog X.w) X.A (newList []) (λacc s₃=>wpAny (model X.prog X.w) X.A (newFunctionEnv scope X.env.globals (oG X.env scope) [] X.env.qual none .none (some X.env)) (λcenv s₄=>
   codeAny (model X.prog X.w) X.A (.compStart (.ListComp elt [⟨tg,iter,ifs,0⟩] scope pos) 0 (.ref it) acc {cenv with scope:=relabel scope X.env}) (RR acc cenv.locals) s₄) E s₃) E s2:=by
 have hlt:∀b∈fp,b<s2.heap.objs.size:=λb hb=>by
  obtain⟨o,e,_⟩:=T.obj _ _ st b hb
  exact Heap.lt_size e
 refine wpAny_newObj_type (wpAny_newFunctionEnv S.nocell (by intro y hy;simp at hy) (λh₁ hns₁ hsb₁=>?_) S.kind)
 dsimp only at hns₁ hsb₁⊢
 generalize hH2:s2.heap.push {cls:=.type "list",dict:=none,data:=.seq ([]:List Value).toArray}=G at hns₁ hsb₁⊢
 have hCe:G.objs.size=s2.heap.objs.size+1:=by rw[<-hH2,Heap.size_push]
 have hDC:s2.heap.objs.size≠G.objs.size:=by rw[hCe];exact Nat.ne_of_lt (Nat.lt_succ_self _)
 have hC:s2.heap.objs.size<=G.objs.size:=by rw[hCe];exact Nat.le_succ _
 have old:∀b o,s2.heap.get? b=some o->h₁.get? b=some o:=λb o e=>
  hsb₁.extBut b o (Nat.ne_of_lt (lt_of_lt_of_le (Heap.lt_size e) hC)) (Heap.get?_push_of_some _ (hH2▸Heap.get?_push_of_some _ e))
 have hacc:h₁.get? s2.heap.objs.size=some {cls:=.type "list",data:=.seq ([]:List Value).toArray 0}:=hsb₁.extBut _ _ hDC (Heap.get?_push_of_some _ (hH2▸Heap.get?_push_size _ rfl))
 generalize hDn:s2.heap.objs.size=D at*
 generalize hCn:G.objs.size=C at*
 have st₁:tn 0 h₁:=T.keep _ _ _ st λb hb o e=>old b o e
 let ρ:=cxC X scope C s2 H2 fp
 have fpY:∀ {pl:List (Addr×Obj)} {H':Hp},(∀b∈fp,H' b=none)->(∀p∈pl,D<=p.1)->∀b∈fp,ib ρ pl H' b:=λ{pl H'} hn hp b hb=>by
  refine⟨hn b hb,Nat.ne_of_lt (lt_of_lt_of_le (hlt b hb) hC),λz=>?_,.inl hb,((sj I2 S f2 (hDn▸hlt) (hDn▸hC)).exf b hb).2,λp hq=>?_⟩
  ·exact(sj I2 S f2 (hDn▸hlt) (hDn▸hC)).exfs b hb z
  ·have hq':p∈[]++pl:=hq
   have:=hp p (by simpa using hq')
   exact Nat.ne_of_gt (lt_of_lt_of_le (hlt b hb) this)
 have loop:∀tk,codeAny (model X.prog X.w) X.A (.compLoop (.ListComp elt [⟨tg,iter,ifs,0⟩] scope pos) 0 (.ref it) (.ref D) (compEnvC scope (oG X.env scope) C X.env)) (RR (.ref D) C) {s2 with heap:=h₁,toks:=tk}:=λtk=>by
  obtain⟨m0,w0⟩:=w0
  refine sk (λn s'=>∃i ys its cap H',Inv ρ [(D,{cls:=.type "list",data:=.seq (List.toArray its) cap})] (dQ ks σ) H' s'/\Vals ys its/\tn i s'.heap/\(∀b∈fp,H' b=none)/\W i n ys H') ?_ m0
   ⟨0,[],[],0,H2,vz I2 S f2 (hDn▸hlt) (hDn▸le_refl _) (hDn▸hC) hDC old hns₁ hacc,.nil,st₁,λb hb=>(f2 b hb).1,w0⟩
  rintro n s3 ⟨i,ys,its,cap,H3,I3,rv,st3,fr3,w3⟩
  have pinD:∀p∈[(D,({cls:=.type "list",data:=.seq (List.toArray its) cap}:Obj))],D<=p.1:=λp hp=>by
   have e:p=(D,{cls:=.type "list",data:=.seq (List.toArray its) cap}):=by simpa using hp
   rw[e];exact le_refl _
  have hDpin:=I3.pin (D,{cls:=.type "list",data:=.seq (List.toArray its) cap}) (mem_append_right _ mem_cons_self)
  rcases turn i n ys H3 w3 with⟨stop,hz,fin⟩|⟨go,hz,step⟩
  ·refine thn (T.done ρ rfl rfl rfl hc i _ s3 _ H3 (λ_ _=>False) I3 (fpY fr3 pinD) st3 stop) λr s4 ⟨hr,I4⟩=>?_
   subst hr
   have hD4:=I4.pin (D,{cls:=.type "list",data:=.seq (List.toArray its) cap}) (mem_append_right _ mem_cons_self)
   obtain⟨m4,hn4,_⟩:=I4.loc
   have JX:=A5 (D:=D) (ys:=ys) (its:=its) (n:=cap) I2 I4 f2 (Nat.le_of_eq hDn) hD4.2.1 hD4.1 rv hz
   exact hR D C H3 s4 m4 ys JX hD4.2.1 (by rw[ah (Ne.symm hDC)];exact I4.free) (Nat.ne_of_gt (lt_of_lt_of_le I2.lt (hDn▸hC))) hC hn4 fin
  ·refine thn (T.item ρ rfl rfl rfl hc i _ s3 _ H3 (λ_ _=>False) I3 (fpY fr3 pinD) st3 go) λr s4 ⟨u,hr,h4⟩=>?_
   subst hr
   refine thn h4 λ_ s5 ⟨x,H5,I5,r5,y5,st5,fr5⟩=>?_
   have I5':=I5.pinned (fpY fr5 pinD) (T.obj _ _ st5)
   refine thn (hg C s2 H2 _ s5 _ H5 x u _ I5' r5 (step x H5 y5)) λ_ s6 ⟨σ6,H6,I6,kp,q6⟩=>?_
   refine thn (htt C s2 H2 _ s6 σ6 H6 _ I6 q6) λok s7 ⟨H7,I7,q7⟩=>?_
   -- the iterator's own objects stand
   have stay:∀ {H':Hp} {s':Shared},Inv ρ ([(D,({cls:=.type "list",data:=.seq (List.toArray its) cap}:Obj))]++kO fp s5.heap) σ6 H' s'->tn (i+1) s'.heap/\∀b∈fp,H' b=none:=λ{H' s'} I'=>by
    refine⟨T.keep _ _ _ st5 λb hb o e=>(I'.pin (b,o) (mem_append_right _ (mem_append_right _ (fg hb e)))).1,λb hb=>?_⟩
    obtain⟨o,e,_⟩:=T.obj _ _ st5 b hb
    exact(I'.pin (b,o) (mem_append_right _ (mem_append_right _ (fg hb e)))).2.1
   cases ok with
   |false=>
    obtain⟨m',hm,w7⟩:=q7
    obtain⟨t7,n7⟩:=stay I7
    exact⟨m',hm,i+1,ys,its,cap,H7,I7.unpinned.weak kp.1.symm kp.2,rv,t7,n7,w7⟩
   |true=>
    rw[if_pos rfl]
    refine thn (he C s2 H2 _ s7 σ6 H7 _ I7 q7) λy s8 ⟨yv,H8,I8,r8,m',hm,w8⟩=>?_
    obtain⟨t8,n8⟩:=stay I8
    have hD8:=I8.pin (D,{cls:=.type "list",data:=.seq (List.toArray its) cap}) (mem_append_right _ (mem_append_left _ mem_cons_self))
    have hlen:=rv.length
    refine append_at hD8.1 (λh9 sb hD9=>?_) (by rw[size_toArray];omega)
    have I9:Inv ρ [] σ6 H8 {s8 with heap:=h9,toks:=s8.toks}:=Inv.turned (it:=D) (I8.pins_of (pins':=[]) λp hp=>nomatch hp) (λb o hb e=>sb.extBut b o hb e) hD8.2.1 hD8.2.2.1 (.inr (Nat.le_of_eq hDn))
     (λx c e z=>by
      obtain⟨v,q⟩:=I8.cell x c e
      obtain⟨o,ho,hd⟩:=q
      rw[z,hD8.1]at ho
      cases ho
      exact hD8.2.2.2.2 v hd) (λp hp=>nomatch(show p∈([]:List (Addr×Obj))from hp))
    have e9:h9.get? D=some {cls:=.type "list",data:=.seq (List.toArray (its++[y])) (cap+1)}:=by
     rw[hD9];simp
    have I10:Inv ρ [(D,{cls:=.type "list",data:=.seq (List.toArray (its++[y])) (cap+1)})] σ6 H8 {s8 with heap:=h9,toks:=s8.toks}:=I9.pins_of λp hp=>by
     have e:p=(D,{cls:=.type "list",data:=.seq (List.toArray (its++[y])) (cap+1)}):=by simpa using hp
     subst e
     exact⟨e9,hD8.2.1,hD8.2.2.1,hD8.2.2.2.1,λv z=>by
      have z':Data.seq (List.toArray (its++[y])) (cap+1)=Data.cell v:=z
      cases z'⟩
    refine⟨m',hm,i+1,ys++[yv],its++[y],cap+1,H8,I10.weak kp.1.symm kp.2,rv.append (.cons r8 .nil),T.keep _ _ _ t8 λb hb o e=>sb.extBut b o (Nat.ne_of_lt (hlt b hb)) e,n8,w8⟩
 exact codeAny_compStart_list (loop _) (T.self _ 0 _ _ _ st₁ (loop _))
theorem A7 (hc:X.calm=true) (S:CSc X scope ks) (hi:PI X tg iter wi) (hg:∀C s H fp,PG (cxC X scope C s H fp) tg g) (htt:∀C s H fp,PTs (cxC X scope C s H fp) ifs tt) (he:∀C s H fp,PE (cxC X scope C s H fp) elt te) (hs:∀x,foldedSetIterable iter X.env x=pure x:=by intro _;rfl):PE X (.ListComp elt [⟨tg,iter,ifs,0⟩] scope pos) (qp wi ks g tt te):=by
 intro pins s σ H Q I h;rw[eval_ListComp];refine wpAny_comprehension_free (use:=none) rfl hs (kX (I.cells_of S)) S.kind S.names (thn (hi pins s σ H _ I h) λv s1 h1=>thn h1 λitv s2 h2=>?_);obtain⟨it,fp,tn,J,H2,e,I2,T,st2,f2,W,w0,turn⟩:=h2;subst e;refine k9 hc S I2 T st2 f2 (λC s H=>hg C s H fp) (λC s H=>htt C s H fp) (λC s H=>he C s H fp) w0 turn ?_;intro D C H3 s3 m ys I3 hD hC hCL hCz hns fin;refine⟨m,hns,λh' sb=>?_⟩;refine⟨.ref D,upd H3 D (.lst ys),?_,rfl,fin D hD⟩;exact I3.turned (t':=s3.toks) (it:=C) (λb o hb e=>sb.extBut b o hb e) hC hCL (.inr (Nat.le_trans I2.sz hCz)) (λx c e z=>by
  obtain⟨v,o,ho,hd⟩:=I2.cell x c e;exact absurd (lt_of_lt_of_le (Heap.lt_size ho) hCz) (by rw[z];exact Nat.lt_irrefl _)) λp hp z=>absurd (lt_of_lt_of_le (Heap.lt_size (I2.pin p hp).1) hCz) (by rw[z];exact Nat.lt_irrefl _)
theorem A8 (hN:X.N.Nodup) (hx:X.N[i]?=some x) (hl:X.env.scope.names.lookup x=some .local) (hc:X.calm=true) (S:CSc X scope ks) (hi:PI X tg iter wi) (hg:∀C s H fp,PG (cxC X scope C s H fp) tg g) (htt:∀C s H fp,PTs (cxC X scope C s H fp) ifs tt) (he:∀C s H fp,PE (cxC X scope C s H fp) elt te) (hsw:swapsWith (.ListComp elt [⟨tg,iter,ifs,0⟩] scope pos) (some (.Name x px)) spos.line X.env=pure true) (hs:∀x,foldedSetIterable iter X.env x=pure x:=by intro _;rfl):PS X (.Assign [.Name x px] (.ListComp elt [⟨tg,iter,ifs,0⟩] scope pos) spos) (wD (qp wi ks g tt te) (p9 i)):=by
 intro pins s σ H Q I h;rw[exec_Assign_Name_used _ _ _ _ hsw];refine wpAny_bind (wpAny_standAt (wpAny_bind ?_));show wpAny _ X.A (do let _<-comprehension (.ListComp elt [⟨tg,iter,ifs,0⟩] scope pos) scope X.env _ (newList []) false (eval iter X.env) (some (assign (.Name x px) X.env))) _ _ s;refine wpAny_bind (wpAny_mono (wpAny_comprehension_free (use:=some (assign (.Name x px) X.env)) (Q:=λ_ s'=>SP X pins Q .next s') rfl hs (kX (I.cells_of S)) S.kind S.names
  (thn (hi pins s σ H _ I h) λv s1 h1=>thn h1 λitv s2 h2=>?_)) (λ_ s' hq=>wpAny_pure (wpAny_pure hq)) λ_ _ e=>e)
 obtain⟨it,fp,tn,J,H2,e,I2,T,st2,f2,W,w0,turn⟩:=h2;subst e;refine k9 hc S I2 T st2 f2 (λC s H=>hg C s H fp) (λC s H=>htt C s H fp) (λC s H=>he C s H fp) w0 turn ?_;intro D C H3 s3 m ys I3 hD hC hCL hCz hns fin;show wpAny _ X.A (assign (.Name x px) X.env (.ref D)) _ _ _;refine wpAny_assign_Name (nB (v:=.ref D) I3 hN hx (.inl hl) rfl (λs4 I4 ⟨a,sb,ha⟩=>?_) (.inr hl));have hCa:C≠a:=by
  rcases ha with z|z
  ·rw[z];exact hCL
  ·intro q;obtain⟨v,o,ho,hd⟩:=I2.cell x a z;exact absurd (lt_of_lt_of_le (Heap.lt_size ho) hCz) (by rw[q];exact Nat.lt_irrefl _)
 refine⟨m,hns.sameBut sb hCa,λh' sb'=>?_⟩;refine⟨σ.set i (some (.ref D)),upd H3 D (.lst ys),?_,fin D hD⟩;exact I4.turned (t':=s4.toks) (it:=C) (λb o hb e=>sb'.extBut b o hb e) hC hCL (.inr (Nat.le_trans I2.sz hCz)) (λx c e z=>by
   obtain⟨v,o,ho,hd⟩:=I2.cell x c e;exact absurd (lt_of_lt_of_le (Heap.lt_size ho) hCz) (by rw[z];exact Nat.lt_irrefl _)) λp hp z=>absurd (lt_of_lt_of_le (Heap.lt_size (I2.pin p hp).1) hCz) (by rw[z];exact Nat.lt_irrefl _)
end
section
variable {κ:Type} [DecidableEq κ]
def ig (kvs:List (κ×V)) (k:κ):Option V:=(kvs.find? λkv=>decide (kv.1=k)).map (·.2)
def fO (kvs:List (κ×V)) (k:κ) (v:V):List (κ×V):=
 if(kvs.any λkv=>decide (kv.1=k))=true then kvs.map (λkv=>if kv.1=k then(kv.1,v)else kv)else kvs++[(k,v)]
theorem lb {k:κ} (e:p.1=k):ig (p::r) k=some p.2:=by simp[ig,List.find?_cons,e]
theorem lh {k:κ} (e:¬p.1=k):ig (p::r) k=ig r k:=by simp[ig,List.find?_cons,e]
theorem wT (k:κ):∀kvs:List (κ×V),(kvs.any λkv=>decide (kv.1=k))=(ig kvs k).isSome:=by grind [ig]
theorem jJ (kvs:List (κ×V)) (k:κ) (v:V):(fO kvs k v).length<=kvs.length+1:=by grind [fO]
theorem RelO.isSome_eq (r:RelO o u):o.isSome=u.isSome:=by
 cases o with
 |none=>cases u with
  |none=>rfl
  |some _=>exact(show False from r).elim
 |some _=>cases u with
  |none=>exact(show False from r).elim
  |some _=>rfl
theorem KV.val (r:KV kvs vs) (k:κ):RelO (ig kvs k) (valueAt vs k):=by
 unfold KV at r;induction r with
 |nil=>exact True.intro
 |@cons p q ps qs h t ih=>
  obtain⟨h1,h2⟩:=h;by_cases e:p.1=k
  ·have e':q.1=k:=h1.symm.trans e;have b:valueAt (q::qs) k=some q.2:=by simp[valueAt,List.find?_cons,e']
   rw[lb e,b];exact h2
  ·have e':¬q.1=k:=λz=>e (h1.trans z);have b:valueAt (q::qs) k=valueAt qs k:=by simp[valueAt,List.find?_cons,e']
   rw[lh e,b];exact ih
theorem KV.any (r:KV kvs vs) (k:κ):(kvs.any λkv=>decide (kv.1=k))=vs.any λkv=>decide (kv.1=k):=by
 unfold KV at r;induction r with
 |nil=>rfl
 |cons h t ih=>rw[List.any_cons,List.any_cons,ih,h.1]
theorem KV.repl (r:KV kvs vs) (k:κ) (ry:RelV y u):
  KV (kvs.map λkv=>if kv.1=k then(kv.1,y)else kv) (vs.map λkv=>if kv.1=k then(kv.1,u)else kv):=by
 unfold KV at r⊢
 induction r with
 |nil=>exact .nil
 |@cons p q ps qs h t ih=>
  rw[List.map_cons,List.map_cons];refine .cons ?_ ih;obtain⟨h1,h2⟩:=h;by_cases e:p.1=k
  ·rw[if_pos e,if_pos (h1.symm.trans e)];exact⟨h1,ry⟩
  ·rw[if_neg e,if_neg (λz=>e (h1.trans z))];exact⟨h1,h2⟩
theorem KV.put (r:KV kvs vs) (k:κ) (ry:RelV y u):KV (fO kvs k y) (stored vs k u):=by
 unfold fO stored;rw[r.any k];by_cases e:(vs.any λkv=>decide (kv.1=k))=true
 ·rw[if_pos e,if_pos e];exact r.repl k ry
 ·rw[if_neg e,if_neg e];exact Paired.snoc r ⟨rfl,ry⟩
theorem KV.length {vs:List (κ×Value)} (r:KV kvs vs):kvs.length=vs.length:=Paired.length r
end
theorem qq (r:RelV (kV k) u):(bh P w).is k u=true:=by
 cases k with
 |inl i=>obtain⟨t,e⟩:=(show∃t,u=Value.int i t from r);subst e;exact pZ P w i t
 |inr x=>obtain⟨t,e⟩:=(show∃t,u=Value.str x t from r);subst e;exact p8 P w x t
theorem nM:∀ {ks:List Key} {us:List Value},Vals (ks.map kV) us->ItemsAre (bh P w) ks us
 |[],_,r=>by rw[List.map_nil]at r;cases r;exact .nil
 |k::ks,_,r=>by
  rw[List.map_cons]at r;cases r with
  |cons h t=>exact .cons (qq h) (nM t)
abbrev KT (H:Hp):List (List Key×V)->List (List Key×Addr×Value)->Prop:=Paired λp q=>p.1=q.1/\H q.2.1=some (.tup (p.1.map kV))/\RelV p.2 q.2.2
theorem KT.val (r:KT H kvs xs) (k:List Key):RelO (ig kvs k) ((atKey xs k).map (·.2)):=by
 induction r with
 |nil=>exact True.intro
 |@cons p q ps qs h t ih=>
  obtain⟨h1,_,h2⟩:=h;by_cases e:p.1=k
  ·have e':q.1=k:=h1.symm.trans e;have b:atKey (q::qs) k=some q.2:=by simp[atKey,List.find?_cons,e']
   rw[lb e,b];exact h2
  ·have e':¬q.1=k:=λz=>e (h1.trans z);have b:atKey (q::qs) k=atKey qs k:=by simp[atKey,List.find?_cons,e']
   rw[lh e,b];exact ih
section
variable {P:Program} {w:World} {H:Hp} {h:Heap} {a:Addr}
theorem Dm (ok:HOk P w H h) (e:Rd H a u):ObjOk P w H h a u:=e.ok ok
theorem uc (ok:HOk P w H h) (e:Rd H a (.dK kvs)):kvs.length<=sizeLine/\(a==sysModules)=false/\∃vs,KV kvs vs/\h.DictOf (bh P w) a vs:=
 show ObjOk P w H h a (.dK kvs)from Dm ok e
theorem Dn (ok:HOk P w H h) (e:H a=some (.dK kvs)):kvs.length<=sizeLine/\(a==sysModules)=false/\∃vs,KV kvs vs/\h.DictOf (bh P w) a vs:=uc ok (.inl e)
theorem wU (ok:HOk P w H h) (e:H a=some (.tup (ks.map kV))):(tupleKind (bh P w)).is h ks a:=by
 obtain⟨_,its,r,o,h1,h2,n,h3⟩:=(show ObjOk P w H h a (.tup (ks.map kV))from ok a _ e);exact⟨o,its.toArray,n,h1,h2,h3,by simpa using nM r⟩
theorem HI (ok:HOk P w H h) (e:Rd H a (.dT kvs)):kvs.length<=sizeLine/\(a==sysModules)=false/\
  ∃xs,KT H kvs xs/\h.DictOfH (tupleKind (bh P w)) a xs:=by
 obtain⟨z,y,xs,r,o,es,ep,h1,h2,h3,h4,h5⟩:=(show ObjOk P w H h a (.dT kvs)from Dm ok e)
 refine⟨z,y,xs,r,o,es,ep,h1,h2,h3,h4,λx hx=>?_,h5⟩
 have all:∀ {l:List (List Key×V)} {m:List (List Key×Addr×Value)},KT H l m->∀x∈m,(tupleKind (bh P w)).is h x.1 x.2.1:=by
  intro l m q;induction q with
  |nil=>intro x hx;exact nomatch hx
  |@cons p q ps qs hq t ih=>
   intro x hx;rcases mem_cons.mp hx with e|hx
   ·subst e;exact wU ok (by rw[<-hq.1];exact hq.2.1)
   ·exact ih x hx
 exact all r x hx
end
def KZ (H:Hp) (a:Addr) (y:V) (r:Option V):Prop:=
 (∃kvs k,Rd H a (.dK kvs)/\y=kV k/\r=ig kvs k)\/∃kvs k b,Rd H a (.dT kvs)/\y=.ref b/\H b=some (.tup (k.map kV))/\r=ig kvs k
section
variable {X:Cx} {pins:List (Addr×Obj)} {σ:St} {H:Hp} {s:Shared} {a:Addr} {y v:V} {u r:Value} {o:Option V} {A:Around} {E:Value->Shared->Prop}
theorem Inv.big (I:Inv X pins σ H s):sysModules<s.heap.objs.size:=by
 have h:mainGlobals<s.heap.objs.size:=(I.mod.glob.keeps I.bk).lt;exact Nat.lt_trans (by decide) h
theorem K0 (hu:A.units+1<cLine) (I:Inv X pins σ H s) (g:KZ H a y o) (ry:RelV y u) (h:∀s',Inv X pins σ H s'->Q (.bool o.isSome) s'):
  wpAny (model X.prog X.w) A (compareOp .In u (.ref a)) Q E s:=by
 rcases g with⟨kvs,k,e,ey,l⟩|⟨kvs,k,b,e,ey,eb,l⟩
 ·subst ey;obtain⟨z,hd,vs,rel,dd⟩:=uc I.hok e;refine wpAny_in_of (qq ry) hd dd.mapOf ?_;rw[<- (rel.val k).isSome_eq,<-l];exact h _ (I.tok _)
 ·subst ey;cases(show u=Value.ref b from ry);obtain⟨z,hd,xs,rel,dd⟩:=HI I.hok e;refine wpAny_in_heap (tupleKind_room_in1 hu) (wU I.hok eb) hd dd ?_;have q:=(rel.val k).isSome_eq;rw[Option.isSome_map]at q;rw[<-q,<-l];exact h _ (I.tok _)
theorem ud (I:Inv X pins σ H s) (mu:Mut (H a)) (hs:Heap.SameBut a s.heap h') (he:∃q,h'.get? a=some q) (new:ObjOk X.prog X.w (upd H a ob) h' a ob):
  Inv X pins σ (upd H a ob) {s with heap:=h',toks:=t'}:=
 I.write (x:=a) (e:=a) mu (.inl rfl) (λb q hb z=>(hs.2 b hb).trans z) he new
theorem wV (z:kvs.length<=sizeLine) (hd:(a==sysModules)=false) (rel:KV kvs vs) (dd:h'.DictOf (bh P w) a vs):
 ObjOk P w H' h' a (.dK kvs):=⟨z,hd,vs,rel,dd⟩
end
section
variable {X:Cx} {pins:List (Addr×Obj)} {σ:St} {H:Hp} {s:Shared} {a:Addr} {kvs:List (Key×V)} {k:Key} {u:Value} {A:Around} {E:Value->Shared->Prop}
end
section
variable {X:Cx} {o i e value:Expr} {pos pos' tpos:Pos} {td ty tv:TE}
end
theorem qr (h:Heap) (hb:sysModules<h.objs.size):ObjOk P w H (h.push {cls:=.type "dict",data:=.dict #[]}) h.objs.size (.dK []):=
 ⟨Nat.zero_le _,beq_eq_false_iff_ne.mpr (Ne.symm (Nat.ne_of_lt hb)),[],.nil,Heap.DictOf.new h⟩
def Es:TE:=λ_ H Q=>∀p,H p=none->Q (.ref p) (upd H p (.dK []))
section
variable {X:Cx} {pos:Pos}
theorem pe_dnewK:PE X (.Dict [] [] pos) Es:=λpins s σ H Q I h=>
 wpAny_Dict_empty ⟨.ref s.heap.objs.size,_,I.laid (a:=s.heap.objs.size) (o:=.dK []) (t':=s.toks) (λ_ _ q=>Heap.get?_push_of_some _ q) (le_refl _) (qr s.heap I.big),rfl,h _ (I.hok.fresh (le_refl _))⟩
end
section
variable {X:Cx}
end
def sr:List (TE×TE)->St->Hp->(List (V×V)->Hp->Prop)->Prop
 |[],_,H,Q=>Q [] H
 |(tk,tv)::r,σ,H,Q=>tk σ H λx H1=>tv σ H1 λy H2=>sr r σ H2 λps H3=>Q ((x,y)::ps) H3
abbrev VV:List (V×V)->List (Value×Value)->Prop:=Paired λp q=>RelV p.1 q.1/\RelV p.2 q.2
noncomputable def PPs (X:Cx) (pos:Pos) (keys:List (Option Expr)) (values:List Expr) (trs:List (TE×TE)):Prop:=
 ∀ (pins:List (Addr×Obj)) (s:Shared) (σ:St) (H:Hp) (Q:List (V×V)->Hp->Prop),Inv X pins σ H s->sr trs σ H Q->
  wpAny (model X.prog X.w) X.A (evalPairs (pairTrees keys values X.env pos)) (λvs s'=>∃ps H',Inv X pins σ H' s'/\VV ps vs/\Q ps H') X.xe s
theorem A9:PPs X pos [] [] []:=λpins s σ H Q I h=>pairTrees_nil_walk ⟨[],H,I,.nil,h⟩
theorem wW (hk:PE X k tk) (hv:PE X v tv) (hr:PPs X pos ks vs trs):
  PPs X pos (some k::ks) (v::vs) ((tk,tv)::trs):=λpins s σ H Q I h=>
 pairTrees_cons_walk (thn (hk pins s σ H _ I h) λu s1 ⟨x,H1,I1,rx,q1⟩=>thn (hv pins s1 σ H1 _ I1 q1) λw2 s2 ⟨y,H2,I2,ry,q2⟩=>
  thn (hr pins s2 σ H2 _ I2 q2) λws s3 ⟨ps,H3,I3,rel,q3⟩=>⟨(x,y)::ps,H3,I3,.cons ⟨rx,ry⟩ rel,q3⟩)
def lj (kvs more:List (Key×V)):List (Key×V):=more.foldl (λacc kv=>fO acc kv.1 kv.2) kvs
theorem KV.merge:∀ {more:List (Key×V)} {rs:List (Key×Value)} {kvs:List (Key×V)} {vs:List (Key×Value)},KV more rs->KV kvs vs->KV (lj kvs more) (merged vs rs):=by
 intro more rs kvs vs r;unfold KV at r;induction r generalizing kvs vs with
 |nil=>intro q;exact q
 |@cons p q ps qs h t ih=>
  intro r0;have e:KV (fO kvs p.1 p.2) (stored vs q.1 q.2):=by
   have:=r0.put p.1 h.2;rw[<-h.1];exact this
  exact ih e
theorem gK:∀ (more kvs:List (Key×V)),(lj kvs more).length<=kvs.length+more.length
 |[],kvs=>by show kvs.length<=kvs.length+0;omega
 |p::r,kvs=>by
  have h1:=gK r (fO kvs p.1 p.2);have h2:=jJ kvs p.1 p.2;show(lj (fO kvs p.1 p.2) r).length<=_;rw[length_cons];omega
theorem lm:∀ {kvs:List (Key×V)} {ws:List (Value×Value)},VV (kvs.map λkv=>(kV kv.1,kv.2)) ws->∃rs,Carries (bh P w) ws rs/\KV kvs rs
 |[],_,r=>by rw[List.map_nil]at r;cases r;exact⟨[],True.intro,.nil⟩
 |p::kvs,_,r=>by
  rw[List.map_cons]at r;cases r with
  |@cons a b as bs h t=>
   obtain⟨rs,c,q⟩:=lm (P:=P) (w:=w) t;obtain⟨b1,b2⟩:=b;exact⟨(p.1,b2)::rs,⟨qq h.1,rfl,c⟩,.cons ⟨rfl,h.2⟩ q⟩
def HJ (trs:List (TE×TE)):TE:=λσ H Q=>∀p,H p=none->sr trs σ (upd H p (.dK [])) λps H2=>H2 p=some (.dK [])/\∃kvs:List (Key×V),ps=kvs.map (λkv=>(kV kv.1,kv.2))/\kvs.length<=15/\Q (.ref p) (upd H2 p (.dK (lj [] kvs)))
theorem Ba (h:PPs X pos keys values trs) (hall:keys.all (·.isSome)=true) (hl:keys.length=values.length) (h0:keys≠[]) (h15:keys.length<=15):PE X (.Dict keys values pos) (HJ trs):=by
 intro pins s σ H Q I q;have hn:=I.hok.fresh (le_refl s.heap.objs.size);have I1:=I.laid (a:=s.heap.objs.size) (o:=.dK []) (h':=s.heap.push {cls:=.type "dict",data:=.dict #[]}) (t':=s.toks) (λ_ _ q=>Heap.get?_push_of_some _ q) (le_refl _) (qr s.heap I.big);refine wpAny_Dict_walk (knd:=bh X.prog X.w) hall hl h0 h15 (thn (h pins _ σ _ _ I1 (q _ hn)) λws s2 ⟨ps,H2,I2,rel,e,kvs,ep,lk,q2⟩=>?_);subst ep;obtain⟨rs,c,rk⟩:=lm (P:=X.prog) (w:=X.w) rel;obtain⟨z,hd,vs0,r0,dd⟩:=Dn I2.hok e;cases r0;refine⟨rs,c,dd,λh' dd' hs=>⟨.ref s.heap.objs.size,_,?_,rfl,q2⟩⟩;have hz:(lj [] kvs).length<=sizeLine:=by
  have h1:=gK kvs [];rw[List.length_nil]at h1;rw[sizeLine_eq];omega
 have he:∃q,h'.get? s.heap.objs.size=some q:=let⟨q,_,_,hq,_⟩:=dd';⟨q,hq⟩;exact ud I2 (by rw[e];exact True.intro) hs he (wV hz hd (rk.merge .nil) dd')
end L2
namespace HT
open PySem PySem.Spec PyProof.Rows
section
open PySem.SeqAt
open PySem.AutoSeq1 (wpAny_loadPart')
open PySem.MeetsSeq PySem.MeetsSeq2 PySem.MeetsSeq3
end
section
variable {prog:Program} {w:World} {A:Around} {E:Value->Shared->Prop} {s:Shared}
end
end HT
namespace L2
open PySem PySem.Spec PyProof.Rows
section
variable {X:Cx}
end
inductive D where
 |non
 |bl (b:Bool)
 |int (i:Int)
 |str (x:Str)
 |ty (n:String)
 |adr (a:Addr)
 |tup (ds:List D)
 |lst (ds:List D)
 |obj (C:Str) (ns:List Str) (ds:List D)
 |dct (ks:List Key) (ds:List D)
mutual
noncomputable def Is (K:Frag) (H:Hp):D->V->Prop
 |.non,v=>v=.non
 |.bl b,v=>v=.bl b
 |.int i,v=>v=.int i
 |.str x,v=>v=.str x
 |.ty n,v=>v=.ty n
 |.adr a,v=>v=.ref a
 |.tup ds,v=>∃a xs,v=.ref a/\SqT K H a xs/\IsL K H ds xs
 |.lst ds,v=>∃a xs,v=.ref a/\SqL K H a xs/\IsL K H ds xs
 |.obj C ns ds,v=>∃a Ca dx fs,v=.ref a/\nsIn K mainGlobals C=some (some (.ref Ca))/\H a=some (.ins Ca dx fs)/\fs.map (·.1)=ns/\IsL K H ds (fs.map (·.2))
 |.dct ks ds,v=>∃a kvs,v=.ref a/\Rd H a (.dK kvs)/\kvs.map (·.1)=ks/\IsL K H ds (kvs.map (·.2))
noncomputable def IsL (K:Frag) (H:Hp):List D->List V->Prop
 |[],xs=>xs=[]
 |d::ds,xs=>∃x r,xs=x::r/\Is K H d x/\IsL K H ds r
end
theorem Same.seqT {K} (e:Same H H') (h:SqT K H a xs):SqT K H' a xs:=by
 rcases h with(h|⟨o,h⟩)|h
 ·exact .inl (.inl (e _ _ h))
 ·exact .inl (.inr ⟨o,e _ _ h⟩)
 ·exact .inr h
theorem Same.rd (e:Same H H') (h:Rd H a u):Rd H' a u:=by
 rcases h with h|⟨o,h⟩
 ·exact .inl (e _ _ h)
 ·exact .inr ⟨o,e _ _ h⟩
mutual
theorem Is.mono {K:Frag} {H H':Hp} (s:Same H H'):∀ (d:D) (v:V),Is K H d v->Is K H' d v
 |.non,_,h=>h
 |.bl _,_,h=>h
 |.int _,_,h=>h
 |.str _,_,h=>h
 |.ty _,_,h=>h
 |.adr _,_,h=>h
 |.tup ds,_,⟨a,xs,e,q,l⟩=>⟨a,xs,e,s.seqT q,IsL.mono s ds xs l⟩
 |.lst ds,_,⟨a,xs,e,q,l⟩=>⟨a,xs,e,s.seq q,IsL.mono s ds xs l⟩
 |.obj _ _ ds,_,⟨a,Ca,dx,fs,e,c,q,z,l⟩=>⟨a,Ca,dx,fs,e,c,s _ _ q,z,IsL.mono s ds _ l⟩
 |.dct _ ds,_,⟨a,kvs,e,q,z,l⟩=>⟨a,kvs,e,s.rd q,z,IsL.mono s ds _ l⟩
theorem IsL.mono {K:Frag} {H H':Hp} (s:Same H H'):∀ (ds:List D) (xs:List V),IsL K H ds xs->IsL K H' ds xs
 |[],_,h=>h
 |d::ds,_,⟨x,r,e,h,l⟩=>⟨x,r,e,Is.mono s d x h,IsL.mono s ds r l⟩
end
theorem IsL.paired {K}:∀ {ds:List D} {xs:List V},IsL K H ds xs->Paired (Is K H) ds xs
 |[],_,h=>by cases(show _=[]from h);exact .nil
 |_::_,_,⟨_,_,e,h,l⟩=>by cases e;exact .cons h (IsL.paired l)
theorem IsL.of {K}:∀ {ds:List D} {xs:List V},Paired (Is K H) ds xs->IsL K H ds xs
 |_,_,.nil=>rfl
 |_,_,.cons h l=>⟨_,_,rfl,h,IsL.of l⟩
theorem IsL.len {K} (h:IsL K H ds xs):ds.length=xs.length:=Paired.length h.paired
theorem lp:∀ {a c:List α} {b d:List β},Paired F a b->Paired F c d->Paired F (a++c) (b++d)
 |_,_,_,_,.nil,h=>h
 |_,_,_,_,.cons h l,q=>.cons h (lp l q)
theorem ii:∀ {a:List α} {b:List β} {i:Nat} {x:α},Paired F a b->a[i]?=some x->∃y,b[i]?=some y/\F x y
 |_,_,_,_,.nil,e=>by simp at e
 |_,_,0,_,.cons h _,e=>by simp at e;subst e;exact⟨_,rfl,h⟩
 |_,_,i+1,_,.cons _ l,e=>by
  obtain⟨y,h1,h2⟩:=ii (i:=i) l (by simpa using e);exact⟨y,by simpa using h1,h2⟩
theorem paired_get':∀ {a:List α} {b:List β} {i:Nat} {y:β},Paired F a b->b[i]?=some y->∃x,a[i]?=some x/\F x y
 |_,_,_,_,.nil,e=>by simp at e
 |_,_,0,_,.cons h _,e=>by simp at e;subst e;exact⟨_,rfl,h⟩
 |_,_,i+1,_,.cons _ l,e=>by
  obtain⟨y,h1,h2⟩:=paired_get' (i:=i) l (by simpa using e);exact⟨y,by simpa using h1,h2⟩
theorem jK:∀ {a:List α} {b:List β} (n:Nat),Paired F a b->Paired F (a.take n) (b.take n)
 |_,_,0,_=>.nil
 |_,_,_+1,.nil=>.nil
 |_,_,n+1,.cons h l=>.cons h (jK n l)
theorem jL:∀ {a:List α} {b:List β} (n:Nat),Paired F a b->Paired F (a.drop n) (b.drop n)
 |_,_,0,h=>h
 |_,_,_+1,.nil=>.nil
 |_,_,n+1,.cons _ l=>jL n l
theorem IsL.app {K} (h:IsL K H ds xs) (q:IsL K H es ys):IsL K H (ds++es) (xs++ys):=.of (lp h.paired q.paired)
theorem IsL.get {K} {i:Nat} (h:IsL K H ds xs) (e:ds[i]?=some d):∃x,xs[i]?=some x/\Is K H d x:=ii h.paired e
theorem IsL.get' {K} {i:Nat} (h:IsL K H ds xs) (e:xs[i]?=some x):∃d,ds[i]?=some d/\Is K H d x:=paired_get' h.paired e
def msk (O:Addr->Bool) (H:Hp):Hp:=λb=>if O b=true then none else H b
theorem aQ (h:msk O H b=some o):O b=false/\H b=some o:=by simp_all [Hp,msk]
theorem aM (h:O b=false):msk O H b=H b:=by unfold msk;rw[if_neg (by simp[h])]
theorem msk_le:Same (msk O H) H:=λ_ _ h=>(aQ h).2
theorem Same.msk (s:Same H H'):Same (msk O H) (msk O H'):=λb o h=>by
 obtain⟨h1,h2⟩:=aQ h;rw[aM h1];exact s b o h2
theorem iH (h:O a=true):msk O (upd H a o)=msk O H:=by
 funext b;unfold L2.msk;by_cases hb:b=a
 ·subst hb;rw[if_pos h,if_pos h]
 ·rw[ah hb]
theorem oH (h:O a=false):msk O (upd H a o)=upd (msk O H) a o:=by
 funext b;by_cases hb:b=a
 ·subst hb;rw[aM h,ai,ai]
 ·rw[ah hb];unfold L2.msk;rw[ah hb]
theorem Same.new (h:H a=none):Same H (upd H a o):=λb u q=>by rw[ah (av q h)];exact q
theorem Is.full {K} (h:Is K (msk O H) d v):Is K H d v:=Is.mono msk_le d v h
theorem IsL.full {K} (h:IsL K (msk O H) d v):IsL K H d v:=IsL.mono msk_le d v h
abbrev Vv:=List (Option D)
def Hid (o:Option HO):Prop:=(∃xs,o=some (.lst xs))\/(∃C dx fs,o=some (.ins C dx fs))\/∃kvs,o=some (.dK kvs)
theorem Hid.ne (h:Hid o):o≠none:=by grind [Hid]
theorem Hid.same (s:Same H H') (h:Hid (H b)):Hid (H' b):=by
 rcases h with⟨xs,e⟩|⟨C,dx,fs,e⟩|⟨kvs,e⟩
 ·exact .inl ⟨xs,s _ _ e⟩
 ·exact .inr (.inl ⟨C,dx,fs,s _ _ e⟩)
 ·exact .inr (.inr ⟨kvs,s _ _ e⟩)
structure VE (K:Frag) (O:Addr->Bool) (σ:St) (H:Hp) (Y:Vv):Prop where
 lis:∀b,O b=true->Hid (H b)
 len:σ.length=Y.length
 sh:∀ (i:Nat) (d:D),Y[i]?=some (some d)->∃v,σ[i]?=some (some v)/\Is K (msk O H) d v
section
variable {K:Frag} {O:Addr->Bool} {σ:St} {H H':Hp} {Y:Vv}
theorem VE.dom (E:VE K O σ H Y):∀b,O b=true->H b≠none:=λb h=>(E.lis b h).ne
theorem VE.grow (E:VE K O σ H Y) (s:Same H H'):VE K O σ H' Y where
 lis:=λb h=>(E.lis b h).same s
 len:=E.len
 sh:=λi d h=>let⟨v,e,q⟩:=E.sh i d h;⟨v,e,Is.mono s.msk d v q⟩
theorem fV (hd:∀b,O b=true->H b≠none) (h:H p=none):O p=false:=by grind
theorem VE.fresh (E:VE K O σ H Y) (h:H p=none):O p=false:=fV E.dom h
theorem get_set_some {α:Type} {l:List (Option α)} {x} {y} (h:(l.set i x)[j]?=some (some y)):(j=i/\x=some y)\/(j≠i/\l[j]?=some (some y)):=by grind
theorem nN {α:Type} {l:List (Option α)} {x} {y} (h:(l.set i x)[i]?=some y):i<l.length:=by grind
theorem VE.set (E:VE K O σ H Y) {i:Nat} {d:D} {v:V} (h:Is K (msk O H) d v):VE K O (σ.set i (some v)) H (Y.set i (some d)) where
 lis:=E.lis
 len:=by simpa using E.len
 sh:=λj d' q=>by
  rcases get_set_some q with⟨e,q'⟩|⟨e,q'⟩
  ·cases q';subst e;have hi:j<σ.length:=by rw[E.len];exact nN q
   exact⟨v,by simp[hi],h⟩
  ·obtain⟨v',e',q2⟩:=E.sh j d' q';exact⟨v',by rw[List.getElem?_set_ne (Ne.symm e)];exact e',q2⟩
theorem wipe_iff {σ} {v:α}:(dQ ks σ)[i]?=some (some v)↔σ[i]?=some (some v)/\i ∉ ks:=⟨kZ ks σ i v,λh=>qo ks σ i v h.1 h.2⟩
theorem VE.wiped (E:VE K O σ H Y) (ks:List Nat):VE K O (dQ ks σ) H (dQ ks Y) where
 lis:=E.lis
 len:=by rw[iG,iG];exact E.len
 sh:=λi d q=>by
  obtain⟨q1,q2⟩:=wipe_iff.mp q;obtain⟨v,e,r⟩:=E.sh i d q1;exact⟨v,wipe_iff.mpr ⟨e,q2⟩,r⟩
end
def tP (K:Frag) (O:Addr->Bool) (Y:Vv) (o:Option D):TE:=λσ H Q=>VE K O σ H Y/\∃d,o=some d/\∀v H',Same H H'->Is K (msk O H') d v->Q v H'
def tPF (K:Frag) (O:Addr->Bool) (Y:Vv) (o:Option (List D)):TE:=λσ H Q=>VE K O σ H Y/\∃ds,o=some ds/\∀p xs H',Same H H'->H' p=none->IsL K (msk O H') ds xs->Q (.ref p) (upd H' p (.lst xs))
def tPT (K:Frag) (O:Addr->Bool) (Y:Vv) (o:Option Bool):TT:=λσ H Q=>VE K O σ H Y/\∃b,o=some b/\∀H',Same H H'->Q b H'
def tPA (K:Frag) (O:Addr->Bool) (Y:Vv) (o:Option (List D)):TA:=λσ H Q=>VE K O σ H Y/\∃ds,o=some ds/\∀vs H',Same H H'->IsL K (msk O H') ds vs->Q vs H'
def PP (X:Cx) (e:Expr) (f:Vv->Option D):Prop:=∀O Y,PE X e (tP X.K O Y (f Y))
def PF (X:Cx) (e:Expr) (f:Vv->Option (List D)):Prop:=∀O Y,PE X e (tPF X.K O Y (f Y))
def PQ (X:Cx) (e:Expr) (f:Vv->Option Bool):Prop:=∀O Y,PT X e (tPT X.K O Y (f Y))
def PX (X:Cx) (es:List Expr) (f:Vv->Option (List D)):Prop:=∀O Y,PA X es (tPA X.K O Y (f Y))
def fP (Y:Vv) (i:Nat):Option D:=match Y[i]? with
 |some (some d)=>some d
 |_=>none
theorem jf (h:fP Y i=some d):Y[i]?=some (some d):=by
 unfold fP at h;grind
section
variable {X:Cx} {pos:Pos}
theorem Et (i:Nat) (hN:X.N[i]?=some x:=by rfl) (hv:Vis X.env.scope x:=by first|exact Or.inl rfl|exact Or.inr (Or.inl rfl)|exact Or.inr (Or.inr rfl)) (hd:(x==("__debug__":Str))=false:=by decide) (hcd:(x==("__classdict__":Str))=false:=by decide):PP X (.Name x pos) (λY=>fP Y i):=λO Y=>(bO hN hv hd hcd).imp λσ H Q ⟨E,d,e,k⟩=>by
 obtain⟨v,e1,e2⟩:=E.sh i d (jf e);exact⟨v,e1,k v H (Same.refl _) e2⟩
theorem pp_int:PP X (.Constant (.int i) j pos) (λ_=>some (.int i)):=λO Y=>pe_int.imp λσ H Q ⟨E,d,e,k⟩=>by
 cases e;exact k _ H (Same.refl _) rfl
theorem pp_bl:PP X (.Constant (.bool b) j pos) (λ_=>some (.bl b)):=λO Y=>pe_bl.imp λσ H Q ⟨E,d,e,k⟩=>by
 cases e;exact k _ H (Same.refl _) rfl
theorem pp_non:PP X (.Constant .none j pos) (λ_=>some .non):=λO Y=>pe_non.imp λσ H Q ⟨E,d,e,k⟩=>by
 cases e;exact k _ H (Same.refl _) rfl
theorem pp_str:PP X (.Constant (.str x) j pos) (λ_=>some (.str x)):=λO Y=>pe_str.imp λσ H Q ⟨E,d,e,k⟩=>by
 cases e;exact k _ H (Same.refl _) rfl
theorem HK (hg:Gl X x) (hm:X.mg x=none) (hv:bootBuiltins x=some (.type n)) (hn:x≠"__name__":=by decide) (hd:(x==("__debug__":Str))=false:=by decide):PP X (.Name x pos) (λ_=>some (.ty n)):=
 λO Y=>(tW (v:=.ty n) hg hm hv rfl hn hd).imp λσ H Q ⟨E,d,e,k⟩=>by
 cases e;exact k _ H (Same.refl _) rfl
theorem Bb (hg:Gl X x) (hm:X.mg x=some u) (r:RelV v u) (h:∀H,Is X.K H d v) (hd:(x==("__debug__":Str))=false:=by decide):PP X (.Name x pos) (λ_=>some d):=
 λO Y=>(tV hg hm r hd).imp λσ H Q ⟨E,d',e,k⟩=>by
 cases e;exact k _ H (Same.refl _) (h _)
def R2D (K:Frag) (r:R2) (g:D->D->Option D):Prop:=∀ (O:Addr->Bool) (H:Hp) (x y:V) (dx dy d:D) (Q:VK),(∀b,O b=true->H b≠none)->Is K (msk O H) dx x->Is K (msk O H) dy y->g dx dy=some d->
 (∀v H',Same H H'->Is K (msk O H') d v->Q v H')->r x y H Q
def aa (g:D->D->Option D) (fa fb:Vv->Option D):Vv->Option D:=λY=>(fa Y).bind λx=>(fb Y).bind λy=>g x y
theorem bind_some {α β:Type} {o} {f:α->Option β} {b} (h:o.bind f=some b):∃a,o=some a/\f a=some b:=by
 cases o with
 |none=>cases h
 |some a=>exact⟨a,rfl,h⟩
theorem ko (hr:R2D X.K r g) (h:tP X.K O Y (aa g fa fb Y) σ H Q):
  tOp r (tP X.K O Y (fa Y)) (tP X.K O Y (fb Y)) σ H Q:=by
 obtain⟨E,d,e,k⟩:=h
 obtain⟨dx,e1,e⟩:=bind_some e
 obtain⟨dy,e2,e3⟩:=bind_some e
 refine⟨E,dx,e1,λx H1 s1 i1=>⟨E.grow s1,dy,e2,λy H2 s2 i2=>?_⟩⟩
 exact hr O H2 x y dx dy d Q (E.grow (s1.trans s2)).dom (Is.mono s2.msk dx x i1) i2 e3 λv H' s3 i3=>k v H' (s1.trans (s2.trans s3)) i3
theorem nO (ho:OpR X (binaryOp op) r) (hr:R2D X.K r g) (ha:PP X a fa) (hb:PP X b fb):PP X (.BinOp a op b pos) (aa g fa fb):=
 λO Y=>(wH ho (ha O Y) (hb O Y)).imp λσ H Q h=>ko hr h
theorem pp_cmp (ho:OpR X (compareOp op) r) (hr:R2D X.K r g) (ha:PP X a fa) (hb:PP X b fb) (hm:behindInMarks op b=false):PP X (.Compare a [op] [b] pos) (aa g fa fb):=
 λO Y=>(AM ho (ha O Y) (hb O Y) hm).imp λσ H Q h=>ko hr h
def D.asB:D->Option Bool
 |.bl b=>some b
 |_=>none
theorem asB_some {d:D} (h:d.asB=some b):d=.bl b:=by
 cases d<;>first|(cases h;rfl)|cases h
def ar (f:Vv->Option D):Vv->Option Bool:=λY=>(f Y).bind D.asB
theorem pq_cmp (ho:OpR X (compareOp op) r) (hr:R2D X.K r g) (ha:PP X a fa) (hb:PP X b fb) (hm:behindInMarks op b=false):PQ X (.Compare a [op] [b] pos) (ar (aa g fa fb)):=
 λO Y=>(AN ho (ha O Y) (hb O Y) hm).imp λσ H Q h=>by
 obtain⟨E,b,e,k⟩:=h
 obtain⟨d,e1,e2⟩:=bind_some e
 cases asB_some e2
 refine ko hr ⟨E,.bl b,e1,λv H' s i=>?_⟩
 cases(show v=.bl b from i)
 exact⟨b,rfl,k H' s⟩
def dt (g g':D->D->Option D) (fa fb fc:Vv->Option D):Vv->Option D:=λY=>(fa Y).bind λx=>(fb Y).bind λy=>(g x y).bind λz=>z.asB.bind λk=>if k=true then(fc Y).bind λw=>g' y w else some (.bl false)
theorem nP (hr:R2D X.K r g) (hr':R2D X.K r' g') (h:tP X.K O Y (dt g g' fa fb fc Y) σ H Q):
  rW r r' (tP X.K O Y (fa Y)) (tP X.K O Y (fb Y)) (tP X.K O Y (fc Y)) σ H Q:=by
 obtain⟨E,d,ea,k⟩:=h
 obtain⟨dx,e1,eb⟩:=bind_some ea
 obtain⟨dy,e2,ec⟩:=bind_some eb
 obtain⟨dz,e3,ed⟩:=bind_some ec
 obtain⟨b,e4,e⟩:=bind_some ed
 clear ea eb ec ed
 cases asB_some e4
 refine⟨E,dx,e1,λx H1 s1 i1=>⟨E.grow s1,dy,e2,λy H2 s2 i2=>?_⟩⟩
 refine hr O H2 x y dx dy _ _ (E.grow (s1.trans s2)).dom (Is.mono s2.msk dx x i1) i2 e3 λv H3 s3 i3=>⟨b,i3,?_⟩
 cases b with
 |true=>
  rw[if_pos rfl]at e⊢;obtain⟨dw,e5,e6⟩:=bind_some e;refine⟨E.grow (s1.trans (s2.trans s3)),dw,e5,λw' H4 s4 i4=>?_⟩;exact hr' O H4 y w' dy dw d Q (E.grow (s1.trans (s2.trans (s3.trans s4)))).dom (Is.mono (s3.trans s4).msk dy y i2) i4 e6 λv' H5 s5 i5=>k v' H5 (s1.trans (s2.trans (s3.trans (s4.trans s5)))) i5
 |false=>
  rw[if_neg Bool.false_ne_true]at e⊢;cases e;exact k _ H3 (s1.trans (s2.trans s3)) rfl
theorem wX (ho:OpR X (compareOp op) r) (ho':OpR X (compareOp op') r') (hr:R2D X.K r g) (hr':R2D X.K r' g') (ha:PP X a fa) (hb:PP X b fb) (hc:PP X c fc) (hm:lastMarks [op,op'] [b,c]=false:=by with_unfolding_all rfl):PP X (.Compare a [op,op'] [b,c] pos) (dt g g' fa fb fc):=λO Y=>(wI ho ho' (ha O Y) (hb O Y) (hc O Y) hm).imp λσ H Q h=>nP hr hr' h
theorem wY (ho:OpR X (compareOp op) r) (ho':OpR X (compareOp op') r') (hr:R2D X.K r g) (hr':R2D X.K r' g') (ha:PP X a fa) (hb:PP X b fb) (hc:PP X c fc) (hm:lastMarks [op,op'] [b,c]=false:=by with_unfolding_all rfl):PQ X (.Compare a [op,op'] [b,c] pos) (ar (dt g g' fa fb fc)):=λO Y=>(wJ ho ho' (ha O Y) (hb O Y) (hc O Y) hm).imp λσ H Q h=>by
 obtain⟨E,b,e,k⟩:=h;obtain⟨d,e1,e2⟩:=bind_some e;cases asB_some e2;refine nP hr hr' ⟨E,.bl b,e1,λv H' s i=>?_⟩;cases(show v=.bl b from i);grind
def HL:D->D->Option D
 |.int i,.int j=>some (.int (i+j))
 |_,_=>none
def cg:D->D->Option D
 |.int i,.int j=>some (.int (i-j))
 |_,_=>none
instance (i j:Int):Decidable (CMul i j):=Classical.propDecidable _
def wZ (_ j:Int):Prop:=0<j/\j.natAbs.log2<9000
instance (i j:Int):Decidable (wZ i j):=Classical.propDecidable _
theorem Bc:OpR X (binaryOp .FloorDiv) (rI wZ λi j=>.int (i/j)):=opI λi j _ _ _ _ _ hc q=>by
 have h1:(0:Int)<j:=hc.1;exact floordiv_int (by omega) (by rw[Int.fdiv_eq_ediv_of_nonneg i (by omega)];exact q) (.inl (PyProof.noPylong_of_log2 hc.2))
instance (i j:Int):Decidable (KL i j):=Classical.propDecidable _
def bN:D->D->Option D
 |.int i,.int j=>if CMul i j then some (.int (i*j))else none
 |_,_=>none
def cO:D->D->Option D
 |.int i,.int j=>if wZ i j then some (.int (i/j))else none
 |_,_=>none
def aT:D->D->Option D
 |.int i,.int j=>if 0<j then some (.int (i%j))else none
 |_,_=>none
def dA:List D->Option (List Int)
 |[]=>some []
 |.int i::ds=>(dA ds).bind λxs=>some (i::xs)
 |_::_=>none
def ltI:D->D->Option D
 |.int i,.int j=>some (.bl (decide (i<j)))
 |_,_=>none
def ltD (x y:D):Option D:=ltI x y
def leD:D->D->Option D
 |.int i,.int j=>some (.bl (decide (i<=j)))
 |_,_=>none
def gtI:D->D->Option D
 |.int i,.int j=>some (.bl (decide (j<i)))
 |_,_=>none
def gtD (x y:D):Option D:=gtI x y
def geD:D->D->Option D
 |.int i,.int j=>some (.bl (decide (j<=i)))
 |_,_=>none
theorem ue {K} {g:Int->Int->Int} (hf:∀x y d,f x y=some d->∃i j,x=.int i/\y=.int j/\d=.int (g i j)):R2D K (rI0 λi j=>.int (g i j)) f:=λO H x y dx dy d Q _ ix iy e k=>by
 obtain⟨i,j,rfl,rfl,rfl⟩:=hf dx dy d e;exact⟨i,j,ix,iy,k _ H (Same.refl _) rfl⟩
theorem iI {K} {g:Int->Int->Bool} (hf:∀x y d,f x y=some d->∃i j,x=.int i/\y=.int j/\d=.bl (g i j)):R2D K (rI0 λi j=>.bl (g i j)) f:=λO H x y dx dy d Q _ ix iy e k=>by
 obtain⟨i,j,rfl,rfl,rfl⟩:=hf dx dy d e;exact⟨i,j,ix,iy,k _ H (Same.refl _) rfl⟩
theorem oI {K} {g:Int->Int->Int} (hf:∀x y d,f x y=some d->∃i j,x=.int i/\y=.int j/\C i j/\d=.int (g i j)):R2D K (rI C λi j=>.int (g i j)) f:=λO H x y dx dy d Q _ ix iy e k=>by
 obtain⟨i,j,rfl,rfl,hc,rfl⟩:=hf dx dy d e;exact⟨i,j,ix,iy,hc,k _ H (Same.refl _) rfl⟩
theorem fj {f:Int->Int->Option D} {x y d:D} (h:(match x,y with|.int i,.int j=>f i j|_,_=>none)=some d):∃i j,x=.int i/\y=.int j/\f i j=some d:=by grind
theorem HM {K}:R2D K (rI0 λi j=>.int (i+j)) HL:=ue λx y d e=>by
 obtain⟨i,j,h1,h2,e⟩:=fj (f:=λi j=>some (.int (i+j))) e;cases e;exact⟨_,_,h1,h2,rfl⟩
theorem HN {K}:R2D K (rI0 λi j=>.int (i-j)) cg:=ue λx y d e=>by
 obtain⟨i,j,h1,h2,e⟩:=fj (f:=λi j=>some (.int (i-j))) e;cases e;exact⟨_,_,h1,h2,rfl⟩
theorem aw {α:Type} [Decidable c] {a b:α} (h:(if c then some a else none)=some b):c/\a=b:=by grind
theorem HP {K}:R2D K (rI CMul λi j=>.int (i*j)) bN:=oI λx y d e=>by
 obtain⟨i,j,h1,h2,e⟩:=fj (f:=λi j=>if CMul i j then some (.int (i*j))else none) e;obtain⟨c,e⟩:=aw e;cases e;exact⟨_,_,h1,h2,c,rfl⟩
theorem HQ {K}:R2D K (rI wZ λi j=>.int (i/j)) cO:=oI λx y d e=>by
 obtain⟨i,j,h1,h2,e⟩:=fj (f:=λi j=>if wZ i j then some (.int (i/j))else none) e;obtain⟨c,e⟩:=aw e;cases e;exact⟨_,_,h1,h2,c,rfl⟩
theorem HR {K}:R2D K (rI (λ_ j=>0<j) λi j=>.int (i%j)) aT:=oI λx y d e=>by
 obtain⟨i,j,h1,h2,e⟩:=fj (f:=λi j=>if 0<j then some (.int (i%j))else none) e;obtain⟨c,e⟩:=aw e;cases e;exact⟨_,_,h1,h2,c,rfl⟩
theorem HU {K}:R2D K (rI0 λi j=>.bl (decide (i<j))) ltI:=iI λx y d e=>by
 obtain⟨i,j,h1,h2,e⟩:=fj (f:=λi j=>some (.bl (decide (i<j)))) e;cases e;exact⟨_,_,h1,h2,rfl⟩
theorem vA {K}:R2D K (rI0 λi j=>.bl (decide (i<=j))) leD:=iI λx y d e=>by
 obtain⟨i,j,h1,h2,e⟩:=fj (f:=λi j=>some (.bl (decide (i<=j)))) e;cases e;exact⟨_,_,h1,h2,rfl⟩
theorem HV {K}:R2D K (rI0 λi j=>.bl (decide (j<i))) gtI:=iI λx y d e=>by
 obtain⟨i,j,h1,h2,e⟩:=fj (f:=λi j=>some (.bl (decide (j<i)))) e;cases e;exact⟨_,_,h1,h2,rfl⟩
theorem HW {K}:R2D K (rI0 λi j=>.bl (decide (j<=i))) geD:=iI λx y d e=>by
 obtain⟨i,j,h1,h2,e⟩:=fj (f:=λi j=>some (.bl (decide (j<=i)))) e;cases e;exact⟨_,_,h1,h2,rfl⟩
theorem jg {K}:∀ {ds:List D} {ns:List Int} {xs:List V},dA ds=some ns->IsL K H ds xs->xs=ns.map V.int
 |[],ns,xs,e,h=>by cases e;exact h
 |.int i::ds,ns,xs,e,⟨x,r,e1,h1,l⟩=>by
  obtain⟨ms,e2,e3⟩:=bind_some (show(dA ds).bind (λxs=>some (i::xs))=some ns from e);cases e3;cases(show x=.int i from h1);rw[e1,jg e2 l];rfl
theorem HX {K}:R2D K (rI0 λi j=>.bl (decide (i<j))) ltD:=HU
theorem HY {K}:R2D K (rI0 λi j=>.bl (decide (j<i))) gtD:=HV
theorem Bd (ha:PP X a fa) (hb:PP X b fb):PP X (.BinOp a .Add b pos) (aa HL fa fb):=nO Eb HM ha hb
theorem Eu (ha:PP X a fa) (hb:PP X b fb):PP X (.BinOp a .Sub b pos) (aa cg fa fb):=nO Ec HN ha hb
theorem Ew (ha:PP X a fa) (hb:PP X b fb):PP X (.BinOp a .Mult b pos) (aa bN fa fb):=nO Ed HP ha hb
theorem Ex (ha:PP X a fa) (hb:PP X b fb):PP X (.BinOp a .FloorDiv b pos) (aa cO fa fb):=nO Bc HQ ha hb
theorem Ey (ha:PP X a fa) (hb:PP X b fb):PP X (.BinOp a .Mod b pos) (aa aT fa fb):=nO Ee HR ha hb
theorem HZ (hu:X.A.units<cLine) (ha:PP X a fa) (hb:PP X b fb):PP X (.Compare a [.Lt] [b] pos) (aa ltD fa fb):=pp_cmp Dd HX ha hb (dq _)
theorem H9 (ha:PP X a fa) (hb:PP X b fb):PP X (.Compare a [.LtE] [b] pos) (aa leD fa fb):=pp_cmp nC vA ha hb (dq _)
theorem Ia (hu:X.A.units<cLine) (ha:PP X a fa) (hb:PP X b fb):PP X (.Compare a [.Gt] [b] pos) (aa gtD fa fb):=pp_cmp De HY ha hb (dq _)
theorem Ib (ha:PP X a fa) (hb:PP X b fb):PP X (.Compare a [.GtE] [b] pos) (aa geD fa fb):=pp_cmp Dg HW ha hb (dq _)
theorem Ic (hu:X.A.units<cLine) (ha:PP X a fa) (hb:PP X b fb):PQ X (.Compare a [.Lt] [b] pos) (ar (aa ltD fa fb)):=pq_cmp Dd HX ha hb (dq _)
theorem Ie (ha:PP X a fa) (hb:PP X b fb):PQ X (.Compare a [.LtE] [b] pos) (ar (aa leD fa fb)):=pq_cmp nC vA ha hb (dq _)
theorem Ig (hu:X.A.units<cLine) (ha:PP X a fa) (hb:PP X b fb):PQ X (.Compare a [.Gt] [b] pos) (ar (aa gtD fa fb)):=pq_cmp De HY ha hb (dq _)
theorem Ih (ha:PP X a fa) (hb:PP X b fb):PQ X (.Compare a [.GtE] [b] pos) (ar (aa geD fa fb)):=pq_cmp Dg HW ha hb (dq _)
theorem pp_lele (ha:PP X a fa) (hb:PP X b fb) (hc:PP X c fc) (hm:lastMarks [.LtE,.LtE] [b,c]=false:=by with_unfolding_all rfl):PP X (.Compare a [.LtE,.LtE] [b,c] pos) (dt leD leD fa fb fc):=wX nC nC vA vA ha hb hc hm
theorem pq_lele (ha:PP X a fa) (hb:PP X b fb) (hc:PP X c fc) (hm:lastMarks [.LtE,.LtE] [b,c]=false:=by with_unfolding_all rfl):PQ X (.Compare a [.LtE,.LtE] [b,c] pos) (ar (dt leD leD fa fb fc)):=wY nC nC vA vA ha hb hc hm
def mW (fa fb:Vv->Option D):Vv->Option D:=λY=>(fa Y).bind λx=>x.asB.bind λc=>if c=true then fb Y else some (.bl false)
def orF (fa fb:Vv->Option D):Vv->Option D:=λY=>(fa Y).bind λx=>x.asB.bind λc=>if c=true then some (.bl true)else fb Y
def Be (fa:Vv->Option D):Vv->Option D:=λY=>(fa Y).bind λx=>x.asB.bind λc=>some (.bl (!c))
def lq (fa fb:Vv->Option Bool):Vv->Option Bool:=λY=>(fa Y).bind λc=>if c=true then fb Y else some false
def orQ (fa fb:Vv->Option Bool):Vv->Option Bool:=λY=>(fa Y).bind λc=>if c=true then some true else fb Y
def dG (fa:Vv->Option Bool):Vv->Option Bool:=λY=>(fa Y).map (!·)
def ifF (fc:Vv->Option Bool) (fa fb:Vv->Option D):Vv->Option D:=λY=>(fc Y).bind λc=>if c=true then fa Y else fb Y
variable {a b c:Expr} {rest:List Expr}
theorem Ez (h:PP X a f):PP X (.BoolOp op [a] pos) f:=λO Y=>D2 (h O Y)
theorem EA (ha:PP X a fa) (hb:PP X (.BoolOp .And (b::rest) pos) fb):PP X (.BoolOp .And (a::b::rest) pos) (mW fa fb):=λO Y=>(D3 (ha O Y) (hb O Y)).imp λσ H Q ⟨E,d,e,k⟩=>by
 obtain⟨dx,e1,eb⟩:=bind_some e;obtain⟨c,e2,ec⟩:=bind_some eb;clear e eb;have e:=ec;clear ec;cases asB_some e2;refine⟨E,_,e1,λv H1 s1 i1=>⟨c,i1,?_⟩⟩;cases c with
 |true=>rw[if_pos rfl]at e⊢;exact⟨E.grow s1,d,e,λv' H2 s2 i2=>k v' H2 (s1.trans s2) i2⟩
 |false=>rw[if_neg Bool.false_ne_true]at e⊢;cases e;exact k _ H1 s1 rfl
theorem EB (ha:PP X a fa):PP X (.UnaryOp .Not a pos) (Be fa):=λO Y=>(D4 (ha O Y)).imp λσ H Q ⟨E,d,e,k⟩=>by
 obtain⟨dx,e1,eb⟩:=bind_some e;obtain⟨c,e2,ec⟩:=bind_some eb;clear e eb;have e:=ec;clear ec;cases asB_some e2;cases e;exact⟨E,_,e1,λv H1 s1 i1=>⟨c,i1,k _ H1 s1 rfl⟩⟩
def PWQ (X:Cx) (e:Expr) (f:Vv->Option Bool):Prop:=∀O Y,PW X e (tPT X.K O Y (f Y))
theorem PWQ.pq (h:PWQ X a f):PQ X a f:=λO Y=>(h O Y).pt
theorem PW.imp (h:PW X e t) (k:∀σ H Q,t' σ H Q->t σ H Q):PW X e t':=λwh pins s σ H Q I q=>h wh pins s σ H Q I (k _ _ _ q)
theorem pw_and1D (h:PQ X a f):PWQ X (.BoolOp .And [a] pos) f:=λO Y=>pw_and1 (h O Y)
theorem pw_or1D (h:PQ X a f):PWQ X (.BoolOp .Or [a] pos) f:=λO Y=>pw_or1 (h O Y)
theorem pw_andD (ha:PQ X a fa) (hb:PWQ X (.BoolOp .And (b::rest) pos) fb):PWQ X (.BoolOp .And (a::b::rest) pos) (lq fa fb):=λO Y=>(pw_and (ha O Y) (hb O Y)).imp λσ H Q ⟨E,d,e,k⟩=>by
 obtain⟨c,e1,eb⟩:=bind_some e;clear e;have e:=eb;clear eb;refine⟨E,c,e1,λH1 s1=>?_⟩;cases c with
 |true=>rw[if_pos rfl]at e⊢;exact⟨E.grow s1,d,e,λH2 s2=>k H2 (s1.trans s2)⟩
 |false=>rw[if_neg Bool.false_ne_true]at e⊢;cases e;exact k H1 s1
theorem pw_orD (ha:PQ X a fa) (hb:PWQ X (.BoolOp .Or (b::rest) pos) fb):PWQ X (.BoolOp .Or (a::b::rest) pos) (orQ fa fb):=λO Y=>(pw_or (ha O Y) (hb O Y)).imp λσ H Q ⟨E,d,e,k⟩=>by
 obtain⟨c,e1,eb⟩:=bind_some e;clear e;have e:=eb;clear eb;refine⟨E,c,e1,λH1 s1=>?_⟩;cases c with
 |true=>rw[if_pos rfl]at e⊢;cases e;exact k H1 s1
 |false=>rw[if_neg Bool.false_ne_true]at e⊢;exact⟨E.grow s1,d,e,λH2 s2=>k H2 (s1.trans s2)⟩
theorem EC (ha:PQ X a fa):PQ X (.UnaryOp .Not a pos) (dG fa):=λO Y=>(wy (ha O Y)).imp λσ H Q ⟨E,d,e,k⟩=>by
 unfold dG at e;cases q:fa Y with
 |none=>rw[q]at e;cases e
 |some c=>rw[q]at e;cases e;exact⟨E,c,rfl,λH1 s1=>k H1 s1⟩
theorem Ii (hc:PQ X c fc) (ha:PP X a fa) (hb:PP X b fb):PP X (.IfExp c a b pos) (ifF fc fa fb):=λO Y=>(wz (hc O Y) (ha O Y) (hb O Y)).imp λσ H Q ⟨E,d,e,k⟩=>by
 obtain⟨c,e1,eb⟩:=bind_some e;clear e;have e:=eb;clear eb;refine⟨E,c,e1,λH1 s1=>?_⟩;cases c with
 |true=>rw[if_pos rfl]at e⊢;exact⟨E.grow s1,d,e,λv' H2 s2 i2=>k v' H2 (s1.trans s2) i2⟩
 |false=>rw[if_neg Bool.false_ne_true]at e⊢;exact⟨E.grow s1,d,e,λv' H2 s2 i2=>k v' H2 (s1.trans s2) i2⟩
def vB:D->Option Bool
 |.bl b=>some b
 |.int i=>some (i !=0)
 |.non=>some false
 |.lst ds=>some (!ds.isEmpty)
 |.tup ds=>some (!ds.isEmpty)
 |_=>none
theorem jM {α β:Type} {a:List α} {b:List β} (h:a.length=b.length):a.isEmpty=b.isEmpty:=by
 cases a<;>cases b<;>first|rfl|simp at h
theorem pq_val (h:PP X a f) (he:∀whole,isTrue a X.env whole=(do let v<-whole;standAt a.pos;holding [v] (truthy v)):=by intro _;rfl):PQ X a (λY=>(f Y).bind vB):=λO Y=>(wK (h O Y) he).imp λσ H Q ⟨E,b,e,k⟩=>by
 obtain⟨d,e1,e⟩:=bind_some e;refine⟨E,d,e1,λv H1 s1 i1=>⟨b,?_,k H1 s1⟩⟩;cases d with
 |bl c=>cases e;cases(show v=.bl b from i1);rfl
 |int i=>cases e;cases(show v=.int i from i1);rfl
 |non=>cases e;cases(show v=.non from i1);rfl
 |lst ds=>
  cases e;obtain⟨p,xs,rfl,q,l⟩:=i1;exact .inl ⟨xs,msk_le.seq q,by rw[jM l.len]⟩
 |tup ds=>
  cases e;obtain⟨p,xs,rfl,q,l⟩:=i1;exact .inr (.inl ⟨xs,msk_le.seqT q,by rw[jM l.len]⟩)
 |_=>cases e
end
def big:Nat:=16777216
theorem eB:sizeLine=big:=sizeLine_eq
section
variable {X:Cx} {pos:Pos} {a b c e:Expr} {es:List Expr}
theorem ED:PX X [] (λ_=>some []):=λO Y=>pa_nil.imp λσ H Q ⟨E,ds,e,k⟩=>by
 cases e;exact k [] H (Same.refl _) rfl
def ag (f:Vv->Option D) (g:Vv->Option (List D)):Vv->Option (List D):=λY=>(f Y).bind λd=>(g Y).bind λr=>some (d::r)
theorem px_cons (h:PP X e f) (hr:PX X es g) (hs:starEach (e::es) X.env=(false,eval e X.env)::starEach es X.env:=by rfl):PX X (e::es) (ag f g):=
 λO Y=>(bi (h O Y) (hr O Y) hs).imp λσ H Q ⟨E,ds,q,k⟩=>by
 obtain⟨d,e1,q⟩:=bind_some q
 obtain⟨r,e2,q⟩:=bind_some q
 cases q
 exact⟨E,d,e1,λv H1 s1 i1=>⟨E.grow s1,r,e2,λvs H2 s2 i2=>k (v::vs) H2 (s1.trans s2) ⟨v,vs,rfl,Is.mono s2.msk d v i1,i2⟩⟩⟩
def ck (o:Option (List D)):Option (List D):=o.bind λds=>if ds.length<big then some ds else none
theorem cP (h:ck o=some ds):o=some ds/\ds.length<sizeLine:=by
 obtain⟨d,e1,e2⟩:=bind_some h;obtain⟨h1,h2⟩:=aw e2;subst h2;exact⟨e1,by rw[eB];exact h1⟩
theorem EE {x1} (h:PX X es g):PP X (.Tuple es x1 pos) (λY=>(ck (g Y)).bind λds=>some (.tup ds)):=λO Y=>(se (h O Y)).imp λσ H Q ⟨E,d,q,k⟩=>by
 obtain⟨ds,z,q2⟩:=bind_some q;cases q2;obtain⟨e1,e2⟩:=cP z;refine⟨E,ds,e1,λvs H1 s1 l=>⟨by rw[<-l.len];exact Nat.le_of_lt e2,λp hp=>?_⟩⟩;have hO:=(E.grow s1).fresh hp;have le:Same (msk O H1) (msk O (upd H1 p (.tup vs))):=by rw[oH hO];exact Same.new (by rw[aM hO];exact hp)
 exact k _ _ (s1.trans (Same.new hp)) ⟨p,vs,rfl,.of (by rw[aM hO,ai]),IsL.mono le _ _ l⟩
theorem EF (h:PX X es g):PF X (.List es pos) (λY=>ck (g Y)):=λO Y=>(wM (h O Y)).imp λσ H Q ⟨E,ds,q,k⟩=>by
 obtain⟨e1,e2⟩:=cP q;exact⟨E,ds,e1,λvs H1 s1 l=>⟨by rw[<-l.len];exact Nat.le_of_lt e2,λp hp=>k p vs H1 s1 hp l⟩⟩
def vC:D->Option Key
 |.int i=>some (.inl i)
 |.str x=>some (.inr x)
 |_=>none
theorem oJ {K} (e:vC d=some k) (h:Is K H d v):v=kV k:=by
 cases d with
 |int i=>cases e;exact h
 |str x=>cases e;exact h
 |_=>cases e
def qt:List Key->List D->Key->Option D
 |k::ks,d::ds,j=>if k=j then some d else qt ks ds j
 |_,_,_=>none
theorem valD_val {K}:∀ {kvs:List (Key×V)} {ds:List D},IsL K H ds (kvs.map (·.2))->(qt (kvs.map (·.1)) ds j=none/\ig kvs j=none)\/∃d v,qt (kvs.map (·.1)) ds j=some d/\ig kvs j=some v/\Is K H d v
 |[],ds,_=>.inl ⟨by cases ds<;>rfl,rfl⟩
 |p::r,[],h=>by cases(show(p::r).map (·.2)=[]from h)
 |p::r,d::ds,⟨x,t,z,h,l⟩=>by
  have z':p.2::r.map (·.2)=x::t:=z;cases z';show((if p.1=j then some d else qt (r.map (·.1)) ds j)=none/\_)\/∃d' v,(if p.1=j then some d else qt (r.map (·.1)) ds j)=some d'/\_;by_cases e:p.1=j
  ·rw[if_pos e,lb e];exact .inr ⟨d,p.2,rfl,rfl,h⟩
  ·rw[if_neg e,lh e];exact valD_val l
def Ij:R2:=λx y H Q=>∃p kvs k v,x=.ref p/\y=kV k/\Rd H p (.dK kvs)/\ig kvs k=some v/\Q v H
theorem Bf:IxR X Ij:=by
 intro value slice pins s σ H x y v u Q I rx ry h hs;obtain⟨p,kvs,k,z,rfl,rfl,e,l,q⟩:=h;cases rx;obtain⟨_,hd,vs,rel,dd⟩:=uc I.hok e;obtain⟨w',hw,rw'⟩:=RelO.some_of (v:=z) (o:=valueAt vs k) (by rw[<-l];exact rel.val k);exact tail_any dd.typeIs PySem.F.slot_dict_getitem.lookup (wpAny_getItem_of (qq ry) dd.mapOf hw ⟨z,H,I.tok _,rw',q⟩) hs
def ixD:D->D->Option D
 |.lst ds,.int i=>atI ds i
 |.tup ds,.int i=>atI ds i
 |.dct ks ds,e=>(vC e).bind (qt ks ds)
 |_,_=>none
theorem uf {xs:List β} {d:α} (hl:ds.length=xs.length) (h:atI ds i=some d):∃j:Nat,ds[j]?=some d/\atI xs i=xs[j]?:=by
 obtain⟨j,e1,e2⟩:=bind_some h;grind [atI]
theorem K1 {K}:R2D K (λx y H Q=>rIx K x y H Q\/Ij x y H Q) ixD:=λO H x y dx dy d Q hd ix iy e k=>by
 cases dx with
 |lst ds=>
  cases dy with
  |int i=>
   obtain⟨p,xs,rfl,q,l⟩:=ix;cases(show y=.int i from iy);obtain⟨j,e1,e2⟩:=uf l.len (show atI ds i=some d from e);obtain⟨v,e3,iv⟩:=l.get e1;exact .inl (.inl ⟨p,xs,i,v,rfl,rfl,msk_le.seq q,e2.trans e3,k v H (Same.refl _) iv⟩)
  |_=>cases e
 |tup ds=>
  cases dy with
  |int i=>
   obtain⟨p,xs,rfl,q,l⟩:=ix;cases(show y=.int i from iy);obtain⟨j,e1,e2⟩:=uf l.len (show atI ds i=some d from e);obtain⟨v,e3,iv⟩:=l.get e1;exact .inl (.inr (.inl ⟨p,xs,i,v,rfl,rfl,msk_le.seqT q,e2.trans e3,k v H (Same.refl _) iv⟩))
  |_=>cases e
 |dct ks ds=>
  obtain⟨p,kvs,rfl,q,rfl,l⟩:=ix;obtain⟨j,e1,e2⟩:=bind_some (show(vC dy).bind _=some d from e);rcases valD_val (j:=j) l with⟨z,_⟩|⟨d',v,z,hv,iv⟩
  ·rw[z]at e2;cases e2
  ·rw[z]at e2;cases e2;exact .inr ⟨p,kvs,j,v,rfl,oJ e1 iy,msk_le.rd q,hv,k v H (Same.refl _) iv⟩
 |_=>cases e
theorem pp_ix (ha:PP X a fa) (hb:PP X b fb) (hs:kn b:=by exactλ_ _=>rfl):PP X (.Subscript a b pos) (aa ixD fa fb):=λO Y=>(Dk (ix_seq.or Bf) (ha O Y) (hb O Y) hs).imp λσ H Q h=>ko K1 h
def RnD (K:Frag) (r:List V->Hp->VK->Prop) (g:List D->Option D):Prop:=∀ (O:Addr->Bool) (H:Hp) (xs:List V) (ds:List D) (d:D) (Q:VK),(∀b,O b=true->H b≠none)->IsL K (msk O H) ds xs->g ds=some d->
 (∀v H',Same H H'->Is K (msk O H') d v->Q v H')->r xs H Q
variable {x:Str} {p:Pos} {bid T:String} {r:List V->Hp->VK->Prop} {g:List D->Option D} {fa:Vv->Option (List D)}
theorem pp_callB (hc:cL X (.builtin bid) r) (hr:RnD X.K r g) (hg:Gl X x) (hm:X.mg x=none) (hv:bootBuiltins x=some (.builtin bid)) (ha:PX X (e::es) fa) (hn:x≠"__name__":=by decide) (hdb:(x==("__debug__":Str))=false:=by decide)
  (he:starEach (e::es) X.env=(false,eval e X.env)::starEach es X.env:=by rfl) (hpl:(backTo pos (starEach es X.env)).any (·.1)=false:=by rfl):PP X (.Call (.Name x p) (e::es) [] pos) (λY=>(fa Y).bind g):=
 λO Y=>(fT hc hg hm hv (ha O Y) hn hdb he hpl).imp λσ H Q ⟨E,d,q,k⟩=>by
 obtain⟨ds,e1,q⟩:=bind_some q
 exact⟨E,ds,e1,λvs H1 s1 l=>hr O H1 vs ds d Q (E.grow s1).dom l q λv H2 s2 i2=>k v H2 (s1.trans s2) i2⟩
theorem pp_callTy (hc:cL X (.type T) r) (hr:RnD X.K r g) (hg:Gl X x) (hm:X.mg x=none) (hv:bootBuiltins x=some (.type T)) (ha:PX X (e::es) fa) (hn:x≠"__name__":=by decide) (hdb:(x==("__debug__":Str))=false:=by decide)
  (he:starEach (e::es) X.env=(false,eval e X.env)::starEach es X.env:=by rfl) (hpl:(backTo pos (starEach es X.env)).any (·.1)=false:=by rfl):PP X (.Call (.Name x p) (e::es) [] pos) (λY=>(fa Y).bind g):=
 λO Y=>(nJ hc hg hm hv (ha O Y) hn hdb he hpl).imp λσ H Q ⟨E,d,q,k⟩=>by
 obtain⟨ds,e1,q⟩:=bind_some q
 exact⟨E,ds,e1,λvs H1 s1 l=>hr O H1 vs ds d Q (E.grow s1).dom l q λv H2 s2 i2=>k v H2 (s1.trans s2) i2⟩
def un1 {α:Type} (g:D->Option α) (ds:List D):Option α:=match ds with
 |[d]=>g d
 |_=>none
def un2 {α:Type} (g:D->D->Option α) (ds:List D):Option α:=match ds with
 |[c,d]=>g c d
 |_=>none
theorem bF {g} {r:α} (h:un1 g ds=some r):∃d,ds=[d]/\g d=some r:=by
 cases ds with
 |nil=>cases h
 |cons d t=>
  cases t with
  |nil=>exact⟨d,rfl,h⟩
  |cons _ _=>cases h
theorem lu {g} {r:α} (h:un2 g ds=some r):∃c d,ds=[c,d]/\g c d=some r:=by
 cases ds with
 |nil=>cases h
 |cons c t=>
  cases t with
  |nil=>cases h
  |cons d u=>
   cases u with
   |nil=>exact⟨c,d,rfl,h⟩
   |cons _ _=>cases h
theorem is1 {K} (l:IsL K H [d] xs):∃v,xs=[v]/\Is K H d v:=by simp_all [Hp,IsL,Is]
theorem is2 {K} {c d} (l:IsL K H [c,d] xs):∃u v,xs=[u,v]/\Is K H c u/\Is K H d v:=by
 obtain⟨u,r,z,h,l2⟩:=l;obtain⟨v,z2,h2⟩:=is1 l2;grind
def seqD:D->Option (List D)
 |.lst ds=>some ds
 |.tup ds=>some ds
 |_=>none
theorem iJ {K} (e:seqD d=some ds) (h:Is K H d v):∃p xs,v=.ref p/\(SqL K H p xs\/SqT K H p xs)/\IsL K H ds xs:=by
 cases d with
 |lst es=>cases e;obtain⟨p,xs,z,q,l⟩:=h;exact⟨p,xs,z,.inl q,l⟩
 |tup es=>cases e;obtain⟨p,xs,z,q,l⟩:=h;exact⟨p,xs,z,.inr q,l⟩
 |_=>cases e
theorem Same.both {K} {a} (s:Same H H') (h:SqL K H a xs\/SqT K H a xs):SqL K H' a xs\/SqT K H' a xs:=by
 rcases h with h|h
 ·exact .inl (s.seq h)
 ·exact .inr (s.seqT h)
def bP:List D->Option D:=un1 λd=>(seqD d).bind λds=>some (.int ds.length)
theorem rn_len:RnD X.K (λxs H Q=>∃p ys,xs=[.ref p]/\(SqL X.K H p ys\/SqT X.K H p ys)/\Q (.int ys.length) H) bP:=λO H xs ds d Q hd l e k=>by
 obtain⟨c,rfl,e⟩:=bF e;obtain⟨es,e1,e2⟩:=bind_some e;cases e2;obtain⟨v,rfl,h⟩:=is1 l;obtain⟨p,ys,rfl,q,l2⟩:=iJ e1 h;exact⟨p,ys,rfl,msk_le.both q,k _ H (Same.refl _) (by show V.int ys.length=.int es.length;rw[l2.len])⟩
def nQ:List D->Option (List D):=un1 seqD
theorem Bg (hg:Gl X "list") (hm:X.mg "list"=none) (hv:bootBuiltins "list"=some (.type "list")) (ha:PX X [e] fa) (he:starEach [e] X.env=[(false,eval e X.env)]:=by rfl):PF X (.Call (.Name "list" p) [e] [] pos) (λY=>(fa Y).bind nQ):=
 λO Y=>(nJ oF hg hm hv (ha O Y) (by decide) (by decide) he rfl).imp λσ H Q ⟨E,ds,q,k⟩=>by
 obtain⟨as,e1,q⟩:=bind_some q
 refine⟨E,as,e1,λvs H1 s1 l=>?_⟩
 obtain⟨c,rfl,q2⟩:=bF q
 obtain⟨v,rfl,h⟩:=is1 l
 obtain⟨p,ys,rfl,t,l2⟩:=iJ q2 h
 exact⟨p,ys,rfl,msk_le.both t,λb hb=>k b ys H1 s1 hb l2⟩
def b6:List D->Option D:=un1 λd=>(seqD d).bind λds=>some (.tup ds)
theorem rn_tuple:RnD X.K (λxs H Q=>∃p ys,xs=[.ref p]/\((SqL X.K H p ys/\∀l,H l=none->Q (.ref l) (upd H l (.tup ys)))\/(SqT X.K H p ys/\Q (.ref p) H))) b6:=λO H xs ds d Q hd l e k=>by
 obtain⟨c,rfl,e⟩:=bF e;obtain⟨es,e1,e2⟩:=bind_some e;cases e2;obtain⟨v,rfl,h⟩:=is1 l;obtain⟨p,ys,rfl,q,l2⟩:=iJ e1 h;refine⟨p,ys,rfl,?_⟩;rcases q with q|q
 ·refine .inl ⟨msk_le.seq q,λc hc=>?_⟩;have hO:=fV hd hc;have le:Same (msk O H) (msk O (upd H c (.tup ys))):=by rw[oH hO];exact Same.new (by rw[aM hO];exact hc)
  exact k _ _ (Same.new hc) ⟨c,ys,rfl,.of (by rw[aM hO,ai]),IsL.mono le _ _ l2⟩
 ·exact .inr ⟨msk_le.seqT q,k _ H (Same.refl _) ⟨p,ys,rfl,q,l2⟩⟩
theorem lv:∀ {bs:List Bool} {us:List Value},Vals (bs.map V.bl) us->us=bs.map Value.bool
 |[],_,.nil=>rfl
 |b::bs,_,.cons r t=>by
  cases(show _=Value.bool b from r);rw[lv t];rfl
theorem nR:∀ (bs:List Bool),((List.range bs.length).all λi=>bs.getD i true)=bs.all (λz=>z)
 |[]=>rfl
 |b::bs=>by
  rw[length_cons,List.range_succ_eq_map,List.all_cons,List.all_map,List.all_cons,<-nR bs];rfl
theorem call_all (hc:X.calm=true):cL X (.builtin "all") (λxs H Q=>∃ (p:Addr) (bs:List Bool),xs=[.ref p]/\SqL X.K H p (bs.map V.bl)/\Q (.bl (bs.all (λz=>z))) H):=by
 intro pins s σ H xs us Q I r h;obtain⟨l,bs,rfl,hl,q⟩:=h;obtain⟨u,rfl,ru⟩:=fS r;cases ru;obtain⟨its,rv,pl,hz⟩:=I.list hl;have eb:=lv rv;subst eb;have hL:=pl.isList;have hlt:l<s.heap.objs.size:=by obtain⟨_,e,_⟩:=hL;exact Heap.lt_size e
 refine call_all_walk (wpAny_pyIter_list hL ?_);refine⟨s.heap.objs.size,[s.heap.objs.size,l],[s.heap.objs.size],_,_,_,λi=>bs.getD i true,rfl,Walks.list (A:=X.A.in1) (I.ok.hd hc) _ l (Nat.ne_of_lt hlt) (bs.map Value.bool).toArray,
  ⟨⟨_,Heap.get?_push_size _ rfl,rfl,rfl⟩,hL.push _⟩,λi v s' Q' E' hP hQ=>?_,λh' tk hk=>?_⟩
 ·have hP':(bs.map Value.bool)[i]?=some v:=by simpa using hP
  rw[getElem?_map]at hP';cases e:bs[i]? with
  |none=>rw[e]at hP';cases hP'
  |some b=>
   rw[e]at hP';cases hP';have e':bs.getD i true=b:=by rw[List.getD_eq_getElem?_getD,e];rfl
   dsimp only at hQ;rw[e']at hQ;exact wpAny_truthy_bool hQ
 ·have e:((List.range (bs.map Value.bool).toArray.size).all λi=>bs.getD i true)=bs.all (λz=>z):=by
   rw[size_toArray,length_map];exact nR bs
  rw[e];exact⟨.bl _,H,I.kept (t':=tk) λb o ho=>hk b o (λhm=>by rw[mem_singleton.mp hm]at ho;exact Nat.lt_irrefl _ (Heap.lt_size ho)) (Heap.get?_push_of_some _ ho),rfl,q⟩
def vD:List D->Option (List Bool)
 |[]=>some []
 |d::ds=>d.asB.bind λb=>(vD ds).bind λr=>some (b::r)
def fW:D->Option (List D)
 |.lst ds=>some ds
 |_=>none
theorem c8 {K} (e:fW d=some ds) (h:Is K H d v):∃p xs,v=.ref p/\SqL K H p xs/\IsL K H ds xs:=by
 cases d with
 |lst es=>cases e;exact h
 |_=>cases e
def ss:List D->Option D:=un1 λd=>(fW d).bind λds=>(vD ds).bind λbs=>some (.bl (bs.all (λz=>z)))
theorem oK {K}:∀ {ds:List D} {bs:List Bool} {xs:List V},vD ds=some bs->IsL K H ds xs->xs=bs.map V.bl
 |[],_,_,e,l=>by cases e;exact l
 |d::ds,_,_,e,⟨x,r,z,h,l⟩=>by
  obtain⟨b,e1,e⟩:=bind_some e;obtain⟨bs,e2,e⟩:=bind_some e;cases e;cases asB_some e1;rw[z,oK e2 l,show x=.bl b from h];rfl
theorem rn_all:RnD X.K (λxs H Q=>∃ (p:Addr) (bs:List Bool),xs=[.ref p]/\SqL X.K H p (bs.map V.bl)/\Q (.bl (bs.all (λz=>z))) H) ss:=λO H xs ds d Q hd l e k=>by
 obtain⟨c,rfl,e⟩:=bF e;obtain⟨es,e1,e2⟩:=bind_some e;obtain⟨bs,e3,e4⟩:=bind_some e2;cases e4;obtain⟨v,rfl,h⟩:=is1 l;obtain⟨p,ys,rfl,q,l2⟩:=c8 e1 h;rw[oK e3 l2]at q;exact⟨p,bs,rfl,msk_le.seq q,k _ H (Same.refl _) rfl⟩
def aU:D->Bool
 |.non=>true
 |.bl _=>true
 |.int _=>true
 |.str _=>true
 |_=>false
def toV:D->V
 |.non=>.non
 |.bl b=>.bl b
 |.int i=>.int i
 |.str x=>.str x
 |_=>.non
theorem kq {K} (f:aU d=true) (h:Is K H d v):v=toV d/\fU v=true:=by
 cases d<;>first|(cases(show v=_ from h);exact⟨rfl,rfl⟩)|cases f
theorem ly {K}:∀ {ds:List D} {xs:List V},ds.all aU=true->IsL K H ds xs->xs=ds.map toV/\xs.all fU=true
 |[],_,_,l=>by cases(show _=[]from l);exact⟨rfl,rfl⟩
 |d::ds,_,f,⟨x,r,z,h,l⟩=>by
  rw[List.all_cons,and_eq_true]at f;obtain⟨e1,e2⟩:=kq f.1 h;obtain⟨e3,e4⟩:=ly f.2 l;rw[z];exact⟨by rw[e1,e3];rfl,by rw[List.all_cons,e2,e4];rfl⟩
def inL (x:D) (ds:List D):Bool:=inV (toV x) (ds.map toV)
def inD:D->D->Option D
 |x,.lst ds=>if aU x&&ds.all aU then some (.bl (inL x ds))else none
 |x,.tup ds=>if aU x&&ds.all aU then some (.bl (inL x ds))else none
 |x,.dct ks _=>(vC x).bind λk=>some (.bl (ks.any λj=>decide (j=k)))
 |_,_=>none
def K2:R2:=λx y H Q=>∃p kvs k,y=.ref p/\x=kV k/\Rd H p (.dK kvs)/\Q (.bl (kvs.any λkv=>decide (kv.1=k))) H
def Ik (K:Frag):R2:=λx y H Q=>rIn K false x y H Q\/K2 x y H Q
theorem op_inA (hu:X.A.units+1<cLine):OpR X (compareOp .In) (Ik X.K):=λpins s σ H x y v u Q I rx ry h=>by
 rcases h with h|⟨p,kvs,k,rfl,rfl,e,q⟩
 ·exact vv pins s σ H x y v u Q I rx ry h
 ·cases ry;refine K0 hu I (.inl ⟨kvs,k,e,rfl,rfl⟩) rx λs' I'=>⟨.bl (ig kvs k).isSome,H,I',rfl,?_⟩;rw[wT]at q;exact q
theorem r_in {K}:R2D K (Ik K) inD:=λO H x y dx dy d Q hd ix iy e k=>by
 cases dy with
 |lst ds=>
  obtain⟨h1,h2⟩:=aw (show(if(aU dx&&ds.all aU)=true then _ else none)=some d from e);rw[and_eq_true]at h1;subst h2;obtain⟨p,xs,rfl,q,l⟩:=iy;obtain⟨e1,e2⟩:=kq h1.1 ix;obtain⟨e3,e4⟩:=ly h1.2 l;exact .inl ⟨p,xs,rfl,.inl (msk_le.seq q),e2,e4,k _ H (Same.refl _) (by rw[e1,e3];rfl)⟩
 |dct ks ds=>
  obtain⟨j,e1,e2⟩:=bind_some (show(vC dx).bind _=some d from e);cases e2;obtain⟨p,kvs,rfl,q,rfl,_⟩:=iy;exact .inr ⟨p,kvs,j,rfl,oJ e1 ix,msk_le.rd q,k _ H (Same.refl _) (by show V.bl _=V.bl _;rw[List.any_map];rfl)⟩
 |tup ds=>
  obtain⟨h1,h2⟩:=aw (show(if(aU dx&&ds.all aU)=true then _ else none)=some d from e);rw[and_eq_true]at h1;subst h2;obtain⟨p,xs,rfl,q,l⟩:=iy;obtain⟨e1,e2⟩:=kq h1.1 ix;obtain⟨e3,e4⟩:=ly h1.2 l;exact .inl ⟨p,xs,rfl,.inr (msk_le.seqT q),e2,e4,k _ H (Same.refl _) (by rw[e1,e3];rfl)⟩
 |_=>cases e
def cm:D->Option String
 |.non=>some "NoneType"
 |.bl _=>some "bool"
 |.int _=>some "int"
 |.str _=>some "str"
 |.tup _=>some "tuple"
 |.lst _=>some "list"
 |_=>none
def isI (T n:String):Bool:=T==n||(T=="bool"&&n=="int")
def ug (n:String):Bool:=["int","bool","str","list","tuple","dict"].contains n
theorem w6 (K:Frag) (hT:cm d=some T) (hn:ug n=true):PySem.W.kitOne K (.type T) (.type n)=some (isI T n):=by
 have hn':n="int"\/n="bool"\/n="str"\/n="list"\/n="tuple"\/n="dict":=by
  simpa [ug] using hn
 cases d<;>first
  |(cases hT;rcases hn' with rfl|rfl|rfl|rfl|rfl|rfl<;>rfl)
  |cases hT
theorem Bh {σ:St} {x} {u c} {b} (I:Inv X pins σ H s) (h:Is X.K H d x) (rx:RelV x u) (hT:cm d=some T) (e:PySem.W.kitOne X.K (.type T) c=some b) (hq:∀tk,Q (.bool b) {s with toks:=tk}):wpAny (model X.prog X.w) A (call (.builtin "isinstance") [u,c]) Q E s:=by
 cases d with
 |non=>cases hT;cases(show x=_ from h);cases(show u=Value.none from rx);exact PySem.W.kia_one PySem.W.kitx_none I.kIn True.intro e (λz=>nomatch z) hq
 |bl y=>cases hT;cases(show x=_ from h);cases(show u=Value.bool y from rx);exact PySem.W.kia_one PySem.W.kitx_bool I.kIn True.intro e (λz=>nomatch z) hq
 |int i=>cases hT;cases(show x=_ from h);obtain⟨t,q⟩:=(show∃t,u=Value.int i t from rx);cases q;exact PySem.W.kia_one PySem.W.kitx_int I.kIn True.intro e (λz=>nomatch z) hq
 |str i=>cases hT;cases(show x=_ from h);obtain⟨t,q⟩:=(show∃t,u=Value.str i t from rx);cases q;exact PySem.W.kia_one PySem.W.kitx_str I.kIn True.intro e (λz=>nomatch z) hq
 |tup ds=>
  cases hT;obtain⟨a,xs,rfl,q,l⟩:=h;cases(show u=Value.ref a from rx);obtain⟨its,_,⟨o,h1,h2,_⟩,_⟩:=I.tuple q;exact PySem.W.kia_one PySem.W.kitx_tuple I.kIn ⟨o,h1,h2⟩ e (λz=>nomatch z) hq
 |lst ds=>
  cases hT;obtain⟨a,xs,rfl,q,l⟩:=h;cases(show u=Value.ref a from rx);obtain⟨its,_,⟨o,n,h1,h2,_⟩,_⟩:=I.list q;exact PySem.W.kia_one PySem.W.kitx_list I.kIn ⟨o,h1,h2⟩ e (λz=>nomatch z) hq
 |_=>cases hT
theorem Bi {σ:St} {x} {b} (I:Inv X pins σ H s) (h:Is X.K H d x) (rx:RelV x u) (hT:cm d=some T) (htp:s.heap.get? tp=some ⟨.type "tuple",dd,.seq its.toArray n,sl⟩) (e:PySem.W.kitAny X.K (.type T) its=some b) (hq:∀tk,Q (.bool b) {s with toks:=tk}):wpAny (model X.prog X.w) A (call (.builtin "isinstance") [u,.ref tp]) Q E s:=by
 cases d with
 |non=>cases hT;cases(show x=_ from h);cases(show u=Value.none from rx);exact PySem.W.kia_tup PySem.W.kitx_none I.kIn True.intro htp e (λz=>nomatch z) hq
 |bl y=>cases hT;cases(show x=_ from h);cases(show u=Value.bool y from rx);exact PySem.W.kia_tup PySem.W.kitx_bool I.kIn True.intro htp e (λz=>nomatch z) hq
 |int i=>cases hT;cases(show x=_ from h);obtain⟨t,q⟩:=(show∃t,u=Value.int i t from rx);cases q;exact PySem.W.kia_tup PySem.W.kitx_int I.kIn True.intro htp e (λz=>nomatch z) hq
 |str i=>cases hT;cases(show x=_ from h);obtain⟨t,q⟩:=(show∃t,u=Value.str i t from rx);cases q;exact PySem.W.kia_tup PySem.W.kitx_str I.kIn True.intro htp e (λz=>nomatch z) hq
 |tup ds=>
  cases hT;obtain⟨a,xs,rfl,q,l⟩:=h;cases(show u=Value.ref a from rx);obtain⟨its,_,⟨o,h1,h2,_⟩,_⟩:=I.tuple q;exact PySem.W.kia_tup PySem.W.kitx_tuple I.kIn ⟨o,h1,h2⟩ htp e (λz=>nomatch z) hq
 |lst ds=>
  cases hT;obtain⟨a,xs,rfl,q,l⟩:=h;cases(show u=Value.ref a from rx);obtain⟨its,_,⟨o,n,h1,h2,_⟩,_⟩:=I.list q;exact PySem.W.kia_tup PySem.W.kitx_list I.kIn ⟨o,h1,h2⟩ htp e (λz=>nomatch z) hq
 |_=>cases hT
def tyD:D->Option String
 |.ty n=>if ug n then some n else none
 |_=>none
theorem qu (h:tyD d=some n):d=.ty n/\ug n=true:=by
 cases d with
 |ty m=>obtain⟨h1,h2⟩:=aw h;subst h2;exact⟨rfl,h1⟩
 |_=>cases h
def w9:List D->Option (List String)
 |[]=>some []
 |d::ds=>(tyD d).bind λn=>(w9 ds).bind λr=>some (n::r)
def Il:D->Option (List D)
 |.tup ds=>some ds
 |_=>none
theorem Bj {K} (e:Il d=some ds) (h:Is K H d v):∃p xs,v=.ref p/\SqT K H p xs/\IsL K H ds xs:=by
 cases d with
 |tup es=>cases e;exact h
 |_=>cases e
def lz (c:D):Option (List String):=match tyD c with
 |some n=>some [n]
 |none=>(Il c).bind w9
def iK:List D->Option D:=un2 λd c=>(cm d).bind λT=>(lz c).bind λns=>some (.bl (ns.any (isI T)))
theorem nS {K} (hT:cm d=some T):∀ {cs:List D} {ns:List String} {xs:List V} {us:List Value},w9 cs=some ns->IsL K H cs xs->Vals xs us->PySem.W.kitAny K (.type T) us=some (ns.any (isI T))
 |[],_,_,_,e,l,r=>by
  cases e;cases(show _=[]from l);cases r;rfl
 |c::cs,ns,_,_,e,⟨x,xr,z,h,l⟩,r=>by
  obtain⟨n,e1,e2⟩:=bind_some e;obtain⟨ms,e3,e4⟩:=bind_some e2;cases e4;obtain⟨rfl,hk⟩:=qu e1;subst z;cases r with
  |cons r1 r2=>
   cases(show x=.ty n from h);cases(show _=Value.type n from r1);show(match PySem.W.kitOne K (.type T) (.type n)with|some true=>some true|some false=>PySem.W.kitAny K (.type T) _|none=>none)=_;rw[w6 K hT hk,nS hT e3 l r2,List.any_cons];cases isI T n<;>rfl
theorem call_isi:cL X (.builtin "isinstance") (λxs H Q=>∃d c T ns,IsL X.K H [d,c] xs/\cm d=some T/\lz c=some ns/\Q (.bl (ns.any (isI T))) H):=by
 intro pins s σ H xs us Q I r h;obtain⟨d,c,T,ns,l,hT,e,q⟩:=h;obtain⟨x,y,rfl,hx,hy⟩:=is2 l;obtain⟨u,w',rfl,r1,r2⟩:=qh r;unfold lz at e;split at e
 ·rename_i n hn;cases e;obtain⟨rfl,hk⟩:=qu hn;cases(show y=.ty n from hy);cases(show w'=Value.type n from r2);refine Bh I hx r1 hT (w6 X.K hT hk) λtk=>⟨.bl _,H,I.tok tk,rfl,?_⟩;have e1:([n].any (isI T))=isI T n:=by simp
  rw[e1]at q;exact q
 ·obtain⟨cs,e1,e2⟩:=bind_some e;obtain⟨tp,ys,rfl,hq,hl⟩:=Bj e1 hy;cases(show w'=Value.ref tp from r2);obtain⟨its,rv,⟨o,h1,h2,n,h3⟩,_⟩:=I.tuple hq;obtain⟨oc,od,oda,osl⟩:=o;cases(show oc=_ from h2);cases(show oda=_ from h3);exact Bi I hx r1 hT h1 (nS hT e2 hl rv) λtk=>⟨.bl _,H,I.tok tk,rfl,q⟩
theorem rn_isi:RnD X.K (λxs H Q=>∃d c T ns,IsL X.K H [d,c] xs/\cm d=some T/\lz c=some ns/\Q (.bl (ns.any (isI T))) H) iK:=λO H xs ds d Q hd l e k=>by
 obtain⟨d0,c,rfl,e⟩:=lu e;obtain⟨T,e1,e2⟩:=bind_some e;obtain⟨ns,e3,e4⟩:=bind_some e2;cases e4;exact⟨d0,c,T,ns,l.full,e1,e3,k _ H (Same.refl _) rfl⟩
end
theorem PE.ex {ι:Type} {t:ι->TE} (h:∀z,PE X e (t z)):PE X e (λσ H Q=>∃z,t z σ H Q):=λpins s σ H Q I ⟨z,q⟩=>h z pins s σ H Q I q
theorem PTs.ex {ι:Type} {t:ι->TT} (h:∀z,PTs X e (t z)):PTs X e (λσ H Q=>∃z,t z σ H Q):=λpins s σ H Q I ⟨z,q⟩=>h z pins s σ H Q I q
theorem PG.ex {ι:Type} {t:ι->TG} (h:∀z,PG X e (t z)):PG X e (λv σ H Q=>∃z,t z v σ H Q):=λpins s σ H v u Q I r ⟨z,q⟩=>h z pins s σ H v u Q I r q
theorem PSs.ex {ι:Type} {t:ι->TS} (h:∀z,PSs X e (t z)):PSs X e (λD σ H=>∃z,t z D σ H):=λpins s σ H D I ⟨z,q⟩=>h z pins s σ H D I q
def nU (K:Frag) (Hm:Hp) (J:It) (ds:List D):Prop:=∀ (i:Nat) (H:Hp) (O:Addr->Bool),Same Hm (msk O H)->(∀b,O b=true->H b≠none)->
 (∀d,ds[i]?=some d->J.go i H/\∀x H3,J.yld i H x H3->Same H H3/\Is K (msk O H3) d x)/\(ds.length<=i->J.stop i H)
def tJ (K:Frag) (O:Addr->Bool) (Y:Vv) (o:Option (List D)):TI:=λσ H R=>VE K O σ H Y/\∃ds,o=some ds/\∀J H',Same H H'->nU K (msk O H') J ds->R J H'
def PJ (X:Cx) (tg iter:Expr) (f:Vv->Option (List D)):Prop:=∀O Y,PI X tg iter (tJ X.K O Y (f Y))
section
variable {X:Cx} {tg l e:Expr} {pos:Pos}
def K3 (K:Frag) (tl:TE):TI:=λσ H R=>tl σ H λx H1=>∃a,x=.ref a/\(((∃xs,SqL K H1 a xs)/\R (Itl K a) H1)\/((∃xs,SqT K H1 a xs)/\R (Itt K a) H1))
theorem EG (hl:PE X l tl):PI X tg l (K3 X.K tl):=by
 intro pins s σ H R I h;refine thn (hl pins s σ H _ I h) λv s1 ⟨x,H1,I1,r1,q1⟩=>?_;obtain⟨a,e,q⟩:=q1;subst e;cases r1;have fin:∀b∈[s1.heap.objs.size],ib X pins H1 b:=λb hb=>by
  have e:b=s1.heap.objs.size:=by simpa using hb
  subst e;exact I1.fpOk (le_refl _) (I1.hok.fresh (le_refl _))
 rcases q with⟨⟨xs,hq⟩,q⟩|⟨⟨xs,hq⟩,q⟩
 ·obtain⟨its,rv,p,hz⟩:=I1.list hq;refine wpAny_pyIter_list p.isList ?_;exact⟨s1.heap.objs.size,[s1.heap.objs.size],_,_,H1,rfl,I1.kept (t':=s1.toks) λb o e=>Heap.get?_push_of_some _ e,vm a _,⟨_,Heap.get?_push_size _ rfl,rfl,rfl⟩,fin,q⟩
 ·obtain⟨its,rv,p,hz⟩:=I1.tuple hq;refine wpAny_pyIter_tuple (show s1.heap.IsTuple a its.toArray from p) ?_;exact⟨s1.heap.objs.size,[s1.heap.objs.size],_,_,H1,rfl,I1.kept (t':=s1.toks) λb o e=>Heap.get?_push_of_some _ e,rT a _,⟨_,Heap.get?_push_size _ rfl,rfl,rfl⟩,fin,q⟩
theorem vE {K} (q:SqL K Hm a xs) (il:IsL K Hm ds xs):nU K Hm (Itl K a) ds:=λi H O s hd=>by
 have q':SqL K H a xs:=(s.trans msk_le).seq q;refine⟨λd hi=>?_,λhi=>⟨xs,q',by rw[<-il.len];exact hi⟩⟩;obtain⟨x,hx,ix⟩:=il.get hi;refine⟨⟨xs,x,q',hx⟩,λy H3 ⟨e,hy⟩=>?_⟩;subst e;have:=hy xs q';rw[hx]at this;cases this;exact⟨Same.refl _,Is.mono s d x ix⟩
theorem xa {K} (q:SqT K Hm a xs) (il:IsL K Hm ds xs):nU K Hm (Itt K a) ds:=λi H O s hd=>by
 have q':SqT K H a xs:=(s.trans msk_le).seqT q;refine⟨λd hi=>?_,λhi=>⟨xs,q',by rw[<-il.len];exact hi⟩⟩;obtain⟨x,hx,ix⟩:=il.get hi;refine⟨⟨xs,x,q',hx⟩,λy H3 ⟨e,hy⟩=>?_⟩;subst e;have:=hy xs q';rw[hx]at this;cases this;exact⟨Same.refl _,Is.mono s d x ix⟩
theorem EH (h:PP X l f):PJ X tg l (λY=>(f Y).bind seqD):=λO Y=>(EG (h O Y)).imp λσ H R ⟨E,ds,q,k⟩=>by
 obtain⟨d,e1,q⟩:=bind_some q;refine⟨E,d,e1,λv H1 s1 i1=>?_⟩;obtain⟨a,xs,rfl,t,il⟩:=iJ q i1;rcases t with t|t
 ·exact⟨a,rfl,.inl ⟨⟨xs,msk_le.seq t⟩,k _ H1 s1 (vE t il)⟩⟩
 ·exact⟨a,rfl,.inr ⟨⟨xs,msk_le.seqT t⟩,k _ H1 s1 (xa t il)⟩⟩
def jh (lo:Int) (n:Nat):List D:=(List.range n).map λ(i:Nat)=>D.int (lo+(i:Int))
theorem su {K} {lo}:nU K Hm (Itr lo n) (jh lo n):=λi H O s hd=>by
 have hl:(jh lo n).length=n:=by simp[jh]
 refine⟨λd hi=>?_,λhi=>by rw[hl]at hi;exact hi⟩;have hin:i<n:=by
  have:=(List.getElem?_eq_some_iff.mp hi).1;rw[hl]at this;exact this
 refine⟨hin,λx H3 ⟨e,hx⟩=>?_⟩;subst e hx;have:d=.int (lo+(i:Int)):=by
  simp[jh,hin]at hi;exact hi.symm
 subst this;exact⟨Same.refl _,rfl⟩
def intD:D->Option Int
 |.int i=>some i
 |_=>none
theorem intD_some (h:intD d=some i):d=.int i:=by
 cases d<;>first|(cases h;rfl)|cases h
def inR (j:Int):Prop:=-(2^62)<=j/\j<2^62
instance (j:Int):Decidable (inR j):=Classical.propDecidable _
def j8:List D->Option (List D):=un1 λd=>(intD d).bind λj=>if inR j then some (jh 0 j.toNat)else none
theorem vF (hg:Gl X "range") (hm:X.mg "range"=none) (ha:PX X [e] fa) (hs:starEach [e] X.env=[(false,eval e X.env)]:=by rfl):PJ X tg (.Call (.Name "range" p) [e] [] pos) (λY=>(fa Y).bind j8):=
 λO Y=>(vn hg hm (ha O Y) hs).imp λσ H R ⟨E,ds,q,k⟩=>by
 obtain⟨as,e1,q⟩:=bind_some q
 refine⟨E,as,e1,λvs H1 s1 il=>?_⟩
 obtain⟨c,rfl,q1⟩:=bF q
 obtain⟨j,q2,q3⟩:=bind_some q1
 obtain⟨h1,h2⟩:=aw q3
 subst h2
 obtain⟨v,rfl,iv⟩:=is1 il
 cases intD_some q2
 have h1':-(2^62)<=j/\j<2^62:=h1
 exact⟨j,by rw[show v=.int j from iv],h1'.1,h1'.2,k _ H1 s1 su⟩
def tG (K:Frag) (O:Addr->Bool) (Y:Vv) (d:D) (ks:List Nat) (o:Option Vv):TG:=λv σ H Q=>VE K O σ H Y/\Is K (msk O H) d v/\∃Y',o=some Y'/\
 ∀σ',VE K O σ' H Y'->σ'.length=σ.length->(∀ (j:Nat) (w:V),j ∉ ks->σ[j]?=some (some w)->σ'[j]?=some (some w))->Q σ' H
def PGD (X:Cx) (ks:List Nat) (tg:Expr) (g:D->Vv->Option Vv):Prop:=∀O Y d,PG X tg (tG X.K O Y d ks (g d Y))
def tGs (K:Frag) (O:Addr->Bool) (Y:Vv) (ds:List D) (ks:List Nat) (o:Option Vv):TGs:=λvs σ H Q=>VE K O σ H Y/\IsL K (msk O H) ds vs/\∃Y',o=some Y'/\
 ∀σ',VE K O σ' H Y'->σ'.length=σ.length->(∀ (j:Nat) (w:V),j ∉ ks->σ[j]?=some (some w)->σ'[j]?=some (some w))->Q σ' H
def vG (X:Cx) (ks:List Nat) (ts:List Expr) (g:List D->Vv->Option Vv):Prop:=∀O Y ds,PGs X ts (tGs X.K O Y ds ks (g ds Y))
def gNm (i:Nat):D->Vv->Option Vv:=λd Y=>some (Y.set i (some d))
theorem Bk (hN:X.N.Nodup) (hi:X.N[i]?=some x) (hx:Loc X.env.scope x) (hk:i∈ks) (hf:X.fn x=true\/X.env.scope.names.lookup x=some .local:=by first|exact .inl rfl|exact .inr rfl|assumption):PGD X ks (.Name x pos) (gNm i):=
 λO Y d=>(tX hN hi hx hf).imp λv σ H Q ⟨E,iv,Y',e,k⟩=>by
 cases e
 refine k _ (E.set iv) (by simp) λj w hj hw=>?_
 rw[List.getElem?_set_ne (λ(z:i=j)=>hj (by rw[<-z];exact hk))];exact hw
theorem PGs.imp (h:PGs X ts t) (k:∀v σ H Q,t' v σ H Q->t v σ H Q):PGs X ts t':=λpins s σ H vs us Q I r q=>h pins s σ H vs us Q I r (k _ _ _ _ q)
def dh:List D->Vv->Option Vv:=λds Y=>match ds with|[]=>some Y|_=>none
def aI (g:D->Vv->Option Vv) (gs:List D->Vv->Option Vv):List D->Vv->Option Vv:=λds Y=>match ds with|d::r=>(g d Y).bind λY1=>gs r Y1|_=>none
theorem Bl:vG X ks [] dh:=λO Y ds=>pgs_nil.imp λvs σ H Q ⟨E,il,Y',e,k⟩=>by
 cases ds with
 |nil=>cases e;exact⟨il,k σ E rfl λ_ _ _ h=>h⟩
 |cons _ _=>cases e
theorem PGs.ex {e} {ι:Type} {t:ι->TGs} (h:∀z,PGs X e (t z)):PGs X e (λv σ H Q=>∃z,t z v σ H Q):=λpins s σ H v u Q I r ⟨z,q⟩=>h z pins s σ H v u Q I r q
theorem gsd_cons (h1:PGD X ks e g) (h2:vG X ks ts gs) (hs:(assignEach (e::ts) X.env).map (·.2)=assign e X.env::(assignEach ts X.env).map (·.2):=by rfl):vG X ks (e::ts) (aI g gs):=λO Y ds=>by
 cases ds with
 |nil=>exactλpins s σ H vs us Q I r ⟨_,_,Y',e,_⟩=>by cases e
 |cons d r=>
  refine(qg (h1 O Y d) (PGs.ex λz:Vv=>h2 O z r) hs).imp λvs σ H Q ⟨E,⟨x,xr,z,ix,il⟩,Y',e,k⟩=>?_;obtain⟨Y1,e1,e2⟩:=bind_some (show(g d Y).bind _=some Y' from e);refine⟨x,xr,z,E,ix,Y1,e1,λσ1 E1 l1 k1=>⟨Y1,E1,il,Y',e2,λσ2 E2 l2 k2=>?_⟩⟩;exact k σ2 E2 (l2.trans l1) λj w hj hw=>k2 j w hj (k1 j w hj hw)
def gTp (n:Nat) (gs:List D->Vv->Option Vv):D->Vv->Option Vv:=λd Y=>match d with|.tup ds=>if ds.length=n then gs ds Y else none|_=>none
theorem EI {k n} (hc:X.calm=true) (h:vG X ks ts gs) (hn:(assignEach ts X.env).length=n:=by rfl) (hst:(assignEach ts X.env).findIdx? (·.1)=none:=by rfl):PGD X ks (.Tuple ts k pos) (gTp n gs):=λO Y d=>by
 refine(wC hc (PGs.ex λz:List D=>h O Y z) hn hst).imp λv σ H Q ⟨E,iv,Y',e,k⟩=>?_;cases d with
 |tup ds=>
  obtain⟨a,xs,rfl,t,il⟩:=iv;have e':(if ds.length=n then gs ds Y else none)=some Y':=e;split at e'
  ·exact⟨a,xs,rfl,msk_le.seqT t,by rw[<-il.len];assumption,ds,E,il,Y',e',k⟩
  ·cases e'
 |_=>cases e
end
def nV (step:D->Option (Option D)):List D->Option (List D)
 |[]=>some []
 |d::ds=>(step d).bind λo=>(nV step ds).bind λr=>some (match o with|some y=>y::r|none=>r)
def iL (g:D->Vv->Option Vv) (ft:Vv->Option Bool) (fe:Vv->Option D) (Y:Vv) (d:D):Option (Option D):=(g d Y).bind λY1=>(ft Y1).bind λc=>if c=true then(fe Y1).bind λy=>some (some y)else some none
def au (ks:List Nat) (fi:Vv->Option (List D)) (g:D->Vv->Option Vv) (ft:Vv->Option Bool) (fe:Vv->Option D):Vv->Option (List D):=λY=>(fi Y).bind λds=>ck (nV (iL g ft fe (dQ ks Y)) ds)
def PQs (X:Cx) (ifs:List Expr) (f:Vv->Option Bool):Prop:=∀O Y,PTs X ifs (tPT X.K O Y (f Y))
theorem PTs.imp (h:PTs X ifs t) (k:∀σ H Q,t' σ H Q->t σ H Q):PTs X ifs t':=λpins s σ H Q I q=>h pins s σ H Q I (k _ _ _ q)
theorem Bm:PQs X [] (λ_=>some true):=λO Y=>pts_nil.imp λσ H Q ⟨E,b,e,k⟩=>by cases e;exact k H (Same.refl _)
theorem Bn (h:PQ X c f):PQs X [c] f:=λO Y=>A6 (h O Y)
section
variable {X:Cx} {tg iter elt:Expr} {pos:Pos}
abbrev xG (K:Frag) (ks:List Nat) (g:D->Vv->Option Vv):TG:=λv σ H Q=>∃z:(Addr->Bool)×Vv×D,tG K z.1 z.2.1 z.2.2 ks (g z.2.2 z.2.1) v σ H Q
abbrev xT (K:Frag) (f:Vv->Option Bool):TT:=λσ H Q=>∃z:(Addr->Bool)×Vv,tPT K z.1 z.2 (f z.2) σ H Q
abbrev xE (K:Frag) (f:Vv->Option D):TE:=λσ H Q=>∃z:(Addr->Bool)×Vv,tP K z.1 z.2 (f z.2) σ H Q
theorem xb {K} (h:tPF K O Y (au ks fi g ft fe Y) σ H Q):
  qp (tJ K O Y (fi Y)) ks (xG K ks g) (xT K ft) (xE K fe) σ H Q:=by
 obtain⟨E,tot,e,k⟩:=h
 obtain⟨ds,e1,e⟩:=bind_some e
 obtain⟨e2,hz⟩:=cP e
 refine⟨E,ds,e1,λJ H1 s1 it=>⟨λi m ys H2=>i<=ds.length/\m=ds.length-i/\Same H1 H2/\∃rs rest,IsL K (msk O H2) rs ys/\nV (iL g ft fe (dQ ks Y)) (ds.drop i)=some rest/\tot=rs++rest,
  ⟨ds.length,Nat.zero_le _,by simp,Same.refl _,[],tot,rfl,by simpa using e2,rfl⟩,?_⟩⟩
 rintro i m ys H2 ⟨hi,rfl,s2,rs,rest,il,er,et⟩
 have E2:VE K O σ H2 Y:=E.grow (s1.trans s2)
 have hit:=it i H2 O s2.msk E2.dom
 have hlen:ys.length<sizeLine:=by
  rw[<-il.len];have:rs.length<=tot.length:=by rw[et,length_append];omega
  omega
 by_cases hlt:i<ds.length
 ·refine .inr ?_;have hd:ds[i]?=some ds[i]:=getElem?_eq_getElem hlt;obtain⟨go,yl⟩:=hit.1 _ hd;refine⟨go,hlen,λx H3 hy=>?_⟩;obtain⟨s3,ix⟩:=yl x H3 hy;rw[List.drop_eq_getElem_cons hlt]at er;obtain⟨o,eo,er⟩:=bind_some (show(iL g ft fe (dQ ks Y) ds[i]).bind _=some rest from er);obtain⟨rest',er',er⟩:=bind_some er;obtain⟨Y1,g1,eo⟩:=bind_some eo;obtain⟨c,c1,eo⟩:=bind_some eo;refine⟨⟨O,dQ ks Y,ds[i]⟩,(E2.grow s3).wiped ks,ix,Y1,g1,λσ4 E4 l4 k4=>⟨⟨l4,λj w hw=>?_⟩,⟨O,Y1⟩,E4,c,c1,λH5 s5=>?_⟩⟩
  ·exact k4 j w (wipe_iff.mp hw).2 hw
  ·have hm:ds.length-(i+1)<ds.length-i:=by omega
   cases c with
   |true=>
    rw[if_pos rfl]at eo;refine A4 ?_;obtain⟨y,y1,eo⟩:=bind_some eo;cases eo;refine⟨⟨O,Y1⟩,E4.grow s5,y,y1,λv H6 s6 iv=>⟨_,hm,hlt,rfl,s2.trans (s3.trans (s5.trans s6)),rs++[y],rest',?_,er',?_⟩⟩
    ·exact(IsL.mono (s3.trans (s5.trans s6)).msk _ _ il).app ⟨v,[],rfl,iv,rfl⟩
    ·rw[et,<-Option.some.inj er,List.append_assoc];rfl
   |false=>
    rw[if_neg Bool.false_ne_true]at eo;refine A3 ?_;cases eo;refine⟨_,hm,hlt,rfl,s2.trans (s3.trans s5),rs,rest',IsL.mono (s3.trans s5).msk _ _ il,er',?_⟩;rw[et,<-Option.some.inj er]
 ·have hie:i=ds.length:=by omega
  subst hie;refine .inl ⟨hit.2 (le_refl _),Nat.le_of_lt hlen,λp hp=>?_⟩;rw[List.drop_of_length_le (le_refl _)]at er;cases er;rw[List.append_nil]at et;subst et;exact k p ys H2 (s1.trans s2) hp il
end
def qv (ns:List Int):Int:=ns.foldl (·+·) 0
theorem nW (ns:List Int):∀k,k<=ns.length->preSum (λi=>ns.getD i 0) k=qv (ns.take k)
 |0,_=>rfl
 |k+1,h=>by
  show preSum (λi=>ns.getD i 0) k+ns.getD k 0=_;rw[nW ns k (by omega),List.take_add_one,getElem?_eq_getElem (by omega),Option.toList_some];unfold qv;rw[List.foldl_append];simp[List.getD_eq_getElem?_getD,getElem?_eq_getElem (show k<ns.length by omega)]
section
variable {X:Cx} {a:Expr} {p pos:Pos}
theorem uh:∀ {ns:List Int} {us:List Value},Vals (ns.map V.int) us->∀ (i:Nat) (u:Value),us[i]?=some u->∃t,u=Value.int (ns.getD i 0) t
 |[],_,.nil,i,u,e=>by simp at e
 |n::ns,_,.cons r q,0,u,e=>by
  simp at e;subst e;obtain⟨t,e⟩:=r;exact⟨t,by rw[e];rfl⟩
 |n::ns,_,.cons r q,i+1,u,e=>by
  obtain⟨t,e'⟩:=uh q i u (by simpa using e);exact⟨t,by rw[e'];rfl⟩
theorem call_sumL (hc:X.calm=true):cL X (.builtin "sum") (λxs H Q=>∃ (l:Addr) (ns:List Int),xs=[.ref l]/\SqL X.K H l (ns.map V.int)/\Q (.int (qv ns)) H):=by
 intro pins s σ H xs us Q I r h;obtain⟨l,ns,rfl,hl,q⟩:=h;obtain⟨u,rfl,ru⟩:=fS r;cases ru;obtain⟨its,rv,pl,hz⟩:=I.list hl;have hL:=pl.isList;have hlt:l<s.heap.objs.size:=by obtain⟨_,e,_⟩:=hL;exact Heap.lt_size e
 have hlen:its.length=ns.length:=by rw[<-rv.length,length_map]
 refine call_sum_walkAnyS (wpAny_pyIter_list hL ?_);refine⟨s.heap.objs.size,[s.heap.objs.size,l],[s.heap.objs.size],_,_,_,_,λi=>ns.getD i 0,rfl,(Walks.list (A:=X.A.in1) (I.ok.hd hc) _ l (Nat.ne_of_lt hlt) its.toArray).toS,
  ⟨⟨_,Heap.get?_push_size _ rfl,rfl,rfl⟩,hL.push _⟩,λb hb=>?_,λi v hP=>?_,λs' t' hk=>?_⟩
 ·rcases mem_cons.mp hb with rfl|hb
  ·show s.heap.objs.size<(s.heap.push _).objs.size;rw[size_push'];exact Nat.lt_succ_self _
  ·rw[mem_singleton.mp hb];show l<(s.heap.push _).objs.size;rw[size_push'];exact Nat.lt_succ_of_lt hlt
 ·exact uh rv i v (by simpa using hP)
 ·have e:preSum (λi=>ns.getD i 0) its.toArray.size=qv ns:=by
   rw[size_toArray,hlen,nW ns _ (le_refl _),List.take_length]
  rw[e];have es:s'={s with heap:=s'.heap,toks:=s'.toks}:=by
   have h1:=hk.gens;have h2:=hk.drawn;have h3:=hk.os;cases s';simp only at h1 h2 h3⊢;subst h1 h2 h3;rfl
  rw[es];exact⟨.int _,H,I.kept (t':=s'.toks) λb o ho=>hk.heap b o (λhm=>by rw[mem_singleton.mp hm]at ho;exact Nat.lt_irrefl _ (Heap.lt_size ho)) (Heap.get?_push_of_some _ ho),⟨_,rfl⟩,q⟩
def vH:List D->Option (List Int)
 |[]=>some []
 |d::ds=>(intD d).bind λi=>(vH ds).bind λr=>some (i::r)
theorem ui {K}:∀ {ds:List D} {ns:List Int} {xs:List V},vH ds=some ns->IsL K H ds xs->xs=ns.map V.int
 |[],_,_,e,l=>by cases e;exact l
 |d::ds,_,_,e,⟨x,r,z,h,l⟩=>by
  obtain⟨i,e1,e⟩:=bind_some e;obtain⟨ns,e2,e⟩:=bind_some e;cases e;subst z;cases intD_some e1;rw[ui e2 l,show x=.int i from h];rfl
def oM:List D->Option D:=un1 λd=>(fW d).bind λds=>(vH ds).bind λns=>some (.int (qv ns))
theorem rn_sum {K}:RnD K (λxs H Q=>∃ (l:Addr) (ns:List Int),xs=[.ref l]/\SqL K H l (ns.map V.int)/\Q (.int (qv ns)) H) oM:=λO H xs ds d Q hd l e k=>by
 obtain⟨c,rfl,e⟩:=bF e;obtain⟨es,e1,e⟩:=bind_some e;obtain⟨ns,e2,e⟩:=bind_some e;cases e;obtain⟨v,rfl,h⟩:=is1 l;obtain⟨p,ys,rfl,q,il⟩:=c8 e1 h;have:=ui e2 il;subst this;exact⟨p,ns,rfl,msk_le.seq q,k _ H (Same.refl _) rfl⟩
theorem b_sum:bootBuiltins "sum"=some (.builtin "sum"):=by decide+kernel
end
mutual
noncomputable def eqD:D->D->Bool
 |.non,.non=>true
 |.bl a,.bl b=>a==b
 |.bl a,.int b=>(if a then 1 else 0)==b
 |.int a,.bl b=>a==(if b then 1 else 0)
 |.int a,.int b=>a==b
 |.str a,.str b=>a==b
 |.tup a,.tup b=>eqL a b
 |.lst a,.lst b=>eqL a b
 |_,_=>false
noncomputable def eqL:List D->List D->Bool
 |[],[]=>true
 |a::as,b::bs=>eqD a b&&eqL as bs
 |_,_=>false
end
mutual
noncomputable def dep:D->Nat
 |.tup ds=>cJ ds+1
 |.lst ds=>cJ ds+1
 |_=>0
noncomputable def cJ:List D->Nat
 |[]=>0
 |d::ds=>max (dep d) (cJ ds)
end
mutual
noncomputable def okE:D->Bool
 |.non=>true
 |.bl _=>true
 |.int _=>true
 |.str _=>true
 |.ty _=>false
 |.adr _=>false
 |.tup ds=>okL ds
 |.lst ds=>okL ds
 |.obj _ _ _=>false
 |.dct _ _=>false
noncomputable def okL:List D->Bool
 |[]=>true
 |d::ds=>okE d&&okL ds
end
mutual
theorem qw:∀d:D,okE d=true->eqD d d=true
 |.non,_=>rfl
 |.bl a,_=>by show(a==a)=true;simp
 |.int a,_=>by show(a==a)=true;simp
 |.str a,_=>by show(a==a)=true;simp
 |.ty _,h=>by cases h
 |.adr _,h=>by cases h
 |.tup ds,h=>fX ds h
 |.lst ds,h=>fX ds h
 |.obj _ _ _,h=>by cases h
 |.dct _ _,h=>by cases h
theorem fX:∀ds:List D,okL ds=true->eqL ds ds=true
 |[],_=>rfl
 |d::ds,h=>by
  have h':(okE d&&okL ds)=true:=h;rw[and_eq_true]at h';show(eqD d d&&eqL ds ds)=true;rw[qw d h'.1,fX ds h'.2];rfl
end
section
variable {X:Cx} {pins:List (Addr×Obj)} {σ:St} {H:Hp} {s:Shared}
theorem Inv.notBoth (I:Inv X pins σ H s) (h:SqT X.K H a xs) (h':SqL X.K H a ys):False:=by
 obtain⟨_,_,⟨o,e,c,_⟩,_⟩:=I.tuple h;obtain⟨_,_,⟨o',n,e',c',_⟩,_⟩:=I.list h';grind
mutual
theorem Is.inj (I:Inv X pins σ H s):∀ (d e:D) (v:V),okE d=true->okE e=true->Is X.K H d v->Is X.K H e v->d=e
 |d,e,v,hd,he,h,h'=>by
  cases d with
  |non=>cases(show v=_ from h);cases e<;>first|exact(Bool.false_ne_true he).elim|rfl|(exact absurd (show V.non=_ from h') (by intro z;cases z))|(obtain⟨_,_,z,_⟩:=h';cases z)|cases he
  |bl b=>cases(show v=_ from h);cases e<;>first|exact(Bool.false_ne_true he).elim|(cases(show V.bl b=_ from h');rfl)|(exact absurd (show V.bl b=_ from h') (by intro z;cases z))|(obtain⟨_,_,z,_⟩:=h';cases z)|cases he
  |int b=>cases(show v=_ from h);cases e<;>first|exact(Bool.false_ne_true he).elim|(cases(show V.int b=_ from h');rfl)|(exact absurd (show V.int b=_ from h') (by intro z;cases z))|(obtain⟨_,_,z,_⟩:=h';cases z)|cases he
  |str b=>cases(show v=_ from h);cases e<;>first|exact(Bool.false_ne_true he).elim|(cases(show V.str b=_ from h');rfl)|(exact absurd (show V.str b=_ from h') (by intro z;cases z))|(obtain⟨_,_,z,_⟩:=h';cases z)|cases he
  |ty _=>cases hd
  |adr _=>cases hd
  |obj _ _ _=>cases hd
  |dct _ _=>cases hd
  |tup ds=>
   obtain⟨a,xs,rfl,q,l⟩:=h;cases e with
   |tup es=>
    obtain⟨a',ys,z,q',l'⟩:=h';cases z;cases I.tuple_inj q q';rw[IsL.inj I ds es xs hd he l l']
   |lst es=>
    obtain⟨a',ys,z,q',l'⟩:=h';cases z;exact(I.notBoth q q').elim
   |non=>exact absurd (show V.ref a=_ from h') (by intro z;cases z)
   |bl _=>exact absurd (show V.ref a=_ from h') (by intro z;cases z)
   |int _=>exact absurd (show V.ref a=_ from h') (by intro z;cases z)
   |str _=>exact absurd (show V.ref a=_ from h') (by intro z;cases z)
   |ty _=>cases he
   |adr _=>cases he
   |obj _ _ _=>cases he
   |dct _ _=>cases he
  |lst ds=>
   obtain⟨a,xs,rfl,q,l⟩:=h;cases e with
   |lst es=>
    obtain⟨a',ys,z,q',l'⟩:=h';cases z;cases I.list_inj q q';rw[IsL.inj I ds es xs hd he l l']
   |tup es=>
    obtain⟨a',ys,z,q',l'⟩:=h';cases z;exact(I.notBoth q' q).elim
   |non=>exact absurd (show V.ref a=_ from h') (by intro z;cases z)
   |bl _=>exact absurd (show V.ref a=_ from h') (by intro z;cases z)
   |int _=>exact absurd (show V.ref a=_ from h') (by intro z;cases z)
   |str _=>exact absurd (show V.ref a=_ from h') (by intro z;cases z)
   |ty _=>cases he
   |adr _=>cases he
   |obj _ _ _=>cases he
   |dct _ _=>cases he
theorem IsL.inj (I:Inv X pins σ H s):∀ (ds es:List D) (vs:List V),okL ds=true->okL es=true->IsL X.K H ds vs->IsL X.K H es vs->ds=es
 |[],[],_,_,_,_,_=>rfl
 |[],e::es,vs,_,_,h,⟨x,r,z,_⟩=>by cases(show vs=[]from h);cases z
 |d::ds,[],vs,_,_,⟨x,r,z,_⟩,h=>by cases(show vs=[]from h);cases z
 |d::ds,e::es,vs,hd,he,⟨x,r,z,h1,h2⟩,⟨x',r',z',h1',h2'⟩=>by
  cases z;cases z';have hd':(okE d&&okL ds)=true:=hd;have he':(okE e&&okL es)=true:=he;rw[and_eq_true]at hd' he';rw[Is.inj I d e x hd'.1 he'.1 h1 h1',IsL.inj I ds es r hd'.2 he'.2 h2 h2']
end
theorem bI:∀ (ds es:List D),(((List.range (min ds.length es.length)).all λj=>eqD (ds.getD j .non) (es.getD j .non))&&ds.length==es.length)=eqL ds es
 |[],[]=>rfl
 |[],e::es=>by simp[eqL]
 |d::ds,[]=>by simp[eqL]
 |d::ds,e::es=>by
  have ih:=bI ds es;show(((List.range (min (ds.length+1) (es.length+1))).all _)&&_)=(eqD d e&&eqL ds es);rw[<-ih,show min (ds.length+1) (es.length+1)=min ds.length es.length+1 by omega,List.range_succ_eq_map,List.all_cons,List.all_map];have e1:((d::ds).length==(e::es).length)=(ds.length==es.length):=by simp
  rw[e1,Bool.and_assoc];rfl
end
section
variable {X:Cx} {pins:List (Addr×Obj)} {σ:St} {H:Hp} {s:Shared}
theorem ji (A:Around):A.in1.units=A.units+1:=rfl
theorem kr:∀ {ds:List D} {i:Nat} {d:D},ds[i]?=some d->dep d<=cJ ds
 |[],_,_,h=>by simp at h
 |c::ds,0,d,h=>by
  simp at h;subst h;show dep c<=max (dep c) (cJ ds);omega
 |c::ds,i+1,d,h=>by
  have:=kr (ds:=ds) (i:=i) (by simpa using h);show dep d<=max (dep c) (cJ ds);omega
theorem im:∀ {ds:List D} {i:Nat} {d:D},okL ds=true->ds[i]?=some d->okE d=true
 |[],_,_,_,h=>by simp at h
 |c::ds,0,d,ho,h=>by
  simp at h;subst h;have ho':(okE c&&okL ds)=true:=ho;rw[and_eq_true]at ho';exact ho'.1
 |c::ds,i+1,d,ho,h=>by
  have ho':(okE c&&okL ds)=true:=ho;rw[and_eq_true]at ho';exact im (ds:=ds) (i:=i) ho'.2 (by simpa using h)
theorem getD_some {ds:List D} (h:ds[i]?=some d):ds.getD i .non=d:=by rw[List.getD_eq_getElem?_getD,h];rfl
theorem eN (go:∀ (i:Nat) (d e:D) (x y:V) (u w:Value),ds[i]?=some d->es[i]?=some e->Is X.K H d x->Is X.K H e y->RelV x u->RelV y w->SeqAt.EqAt A s u w (eqD d e)) (il:IsL X.K H ds xs) (jl:IsL X.K H es ys) (r:Vals xs us) (q:Vals ys ws) (j:Nat) (h1:j<us.toArray.size) (h2:j<ws.toArray.size):SeqAt.EqAt A s us.toArray[j] ws.toArray[j] (eqD (ds.getD j .non) (es.getD j .non)):=by
 have hx:us[j]?=some us.toArray[j]:=by simp at h1⊢
 have hy:ws[j]?=some ws.toArray[j]:=by simp at h2⊢
 obtain⟨x,e1,r1⟩:=paired_get' r hx;obtain⟨y,e2,r2⟩:=paired_get' q hy;obtain⟨d,e3,i3⟩:=il.get' e1;obtain⟨e,e4,i4⟩:=jl.get' e2;grind
theorem jj (h:Is X.K H d x) (f:aU d=true):fU x=true/\x=toV d:=let⟨a,b⟩:=kq f h;⟨b,a⟩
theorem Bo (f:aU d=true) (g:aU e=true):eqV (toV d) (toV e)=eqD d e:=by
 cases d<;>cases e<;>first|exact(Bool.false_ne_true f).elim|exact(Bool.false_ne_true g).elim|rfl
theorem jk (ds es:List D) (h:ds.length=es.length):((List.range ds.length).all λj=>eqD (ds.getD j .non) (es.getD j .non))=eqL ds es:=by
 have:=bI ds es;rw[<-this,h];simp
theorem oN (h:ds.length≠es.length):eqL ds es=false:=by
 rw[<-bI ds es];grind
theorem xf (I:Inv X pins σ H s):∀ (n:Nat) (A:Around) (d e:D) (x y:V) (u w:Value),dep d<=n->A.units+n<cLine->okE d=true->okE e=true->Is X.K H d x->Is X.K H e y->RelV x u->RelV y w->SeqAt.EqAt A s u w (eqD d e):=by
 intro n;induction n with
 |zero=>
  intro A d e x y u w hn hu od oe hx hy rx ry;have fd:aU d=true:=by
   cases d with
   |tup ds=>exact absurd (show cJ ds+1<=0 from hn) (by omega)
   |lst ds=>exact absurd (show cJ ds+1<=0 from hn) (by omega)
   |ty _=>cases od
   |adr _=>cases od
   |obj _ _ _=>cases od
   |dct _ _=>cases od
   |_=>rfl
  have hu':A.units<cLine:=by omega
  cases fe:aU e with
  |true=>
   obtain⟨f1,e1⟩:=jj hx fd;obtain⟨f2,e2⟩:=jj hy fe;rw[<-Bo fd fe,<-e1,<-e2];exact wP rx ry f1 f2
  |false=>
   cases e with
   |tup es=>
    obtain⟨b,ys,rfl,q,l⟩:=hy;cases ry;obtain⟨its,rv,p,_⟩:=I.tuple q;cases d with
    |non=>cases(show x=_ from hx);cases rx;exact SeqAt.EqAt.none_tuple p hu'
    |bl c=>cases(show x=_ from hx);cases rx;exact SeqAt.EqAt.bool_tuple c p hu'
    |int c=>cases(show x=_ from hx);obtain⟨t,rfl⟩:=rx;exact SeqAt.EqAt.int_tuple c t p hu'
    |str c=>cases(show x=_ from hx);obtain⟨t,rfl⟩:=rx;exact SeqAt.EqAt.str_tuple c t p hu'
    |_=>cases fd
   |lst es=>
    obtain⟨b,ys,rfl,q,l⟩:=hy;cases ry;obtain⟨its,rv,p,_⟩:=I.list q;cases d with
    |non=>cases(show x=_ from hx);cases rx;exact SeqAt.EqAt.none_list p.isList hu'
    |bl c=>cases(show x=_ from hx);cases rx;exact SeqAt.EqAt.bool_list c p.isList hu'
    |int c=>cases(show x=_ from hx);obtain⟨t,rfl⟩:=rx;exact SeqAt.EqAt.int_list c t p.isList hu'
    |str c=>cases(show x=_ from hx);obtain⟨t,rfl⟩:=rx;exact SeqAt.EqAt.str_list c t p.isList hu'
    |_=>cases fd
   |ty _=>cases oe
   |adr _=>cases oe
   |obj _ _ _=>cases oe
   |dct _ _=>cases oe
   |_=>cases fe
 |succ n ih=>
  intro A d e x y u w hn hu od oe hx hy rx ry;have hu':A.units<cLine:=by omega
  cases fd:aU d with
  |true=>
   have h0:dep d<=n:=by
    cases d<;>first|exact Nat.zero_le _|cases fd
   exact ih A d e x y u w h0 (by omega) od oe hx hy rx ry
  |false=>
   cases d with
   |tup ds=>
    have hdn:cJ ds<=n:=Nat.le_of_succ_le_succ (show cJ ds+1<=n+1 from hn);obtain⟨a,xs,rfl,q,l⟩:=hx;cases rx;obtain⟨its,rv,p,_⟩:=I.tuple q;cases e with
    |tup es=>
     obtain⟨b,ys,rfl,q',l'⟩:=hy;cases ry;obtain⟨its',rv',p',_⟩:=I.tuple q';by_cases hab:a=b
     ·subst hab;cases I.tuple_inj q q';cases IsL.inj I ds es xs od oe l l';rw[show eqD (.tup ds) (.tup ds)=true from fX ds od];exact SeqAt.EqAt.same _
     ·refine SeqAt.EqAt.of_refs hab ?_;have h:=SeqAt.RcAt.tuples (e:=λj=>eqD (ds.getD j .non) (es.getD j .non)) p p' hu' λj h1 h2=>eN (λi d e x y u w e1 e2 i1 i2 r1 r2=>ih A.in1 d e x y u w (Nat.le_trans (kr e1) hdn) (by rw[ji];omega) (im od e1) (im oe e2) i1 i2 r1 r2) l l' rv rv' j h1 h2;have e1:its.toArray.size=ds.length:=by rw[size_toArray,<-rv.length,l.len]
      have e2:its'.toArray.size=es.length:=by rw[size_toArray,<-rv'.length,l'.len]
      rw[e1,e2,bI]at h;exact h
    |lst es=>
     obtain⟨b,ys,rfl,q',l'⟩:=hy;cases ry;obtain⟨its',rv',p',_⟩:=I.list q';exact SeqAt.EqAt.tuple_list p p'.isList hu'
    |non=>cases(show y=_ from hy);cases ry;exact SeqAt.EqAt.tuple_none p hu'
    |bl c=>cases(show y=_ from hy);cases ry;exact SeqAt.EqAt.tuple_bool c p hu'
    |int c=>cases(show y=_ from hy);obtain⟨t,rfl⟩:=ry;exact SeqAt.EqAt.tuple_int c t p hu'
    |str c=>cases(show y=_ from hy);obtain⟨t,rfl⟩:=ry;exact SeqAt.EqAt.tuple_str c t p hu'
    |ty _=>cases oe
    |adr _=>cases oe
    |obj _ _ _=>cases oe
    |dct _ _=>cases oe
   |lst ds=>
    have hdn:cJ ds<=n:=Nat.le_of_succ_le_succ (show cJ ds+1<=n+1 from hn);obtain⟨a,xs,rfl,q,l⟩:=hx;cases rx;obtain⟨its,rv,p,_⟩:=I.list q;cases e with
    |lst es=>
     obtain⟨b,ys,rfl,q',l'⟩:=hy;cases ry;obtain⟨its',rv',p',_⟩:=I.list q';have e1:its.toArray.size=ds.length:=by rw[size_toArray,<-rv.length,l.len]
     have e2:its'.toArray.size=es.length:=by rw[size_toArray,<-rv'.length,l'.len]
     by_cases hab:a=b
     ·subst hab;cases I.list_inj q q';cases IsL.inj I ds es xs od oe l l';rw[show eqD (.lst ds) (.lst ds)=true from fX ds od];exact SeqAt.EqAt.same _
     ·refine SeqAt.EqAt.of_refs hab ?_;by_cases hl:ds.length=es.length
      ·have h:=SeqAt.RcAt.lists (e:=λj=>eqD (ds.getD j .non) (es.getD j .non)) p.isList p'.isList (by rw[e1,e2,hl]) hu' λj h1 h2=>eN (λi d e x y u w e1 e2 i1 i2 r1 r2=>ih A.in1 d e x y u w (Nat.le_trans (kr e1) hdn) (by rw[ji];omega) (im od e1) (im oe e2) i1 i2 r1 r2) l l' rv rv' j h1 h2;rw[e1,jk ds es hl]at h;exact h
      ·rw[show eqD (.lst ds) (.lst es)=false from oN hl];exact SeqAt.RcAt.lists_lengths p.isList p'.isList (by rw[e1,e2];simpa using hl) hu'
    |tup es=>
     obtain⟨b,ys,rfl,q',l'⟩:=hy;cases ry;obtain⟨its',rv',p',_⟩:=I.tuple q';exact SeqAt.EqAt.list_tuple p.isList p' hu'
    |non=>cases(show y=_ from hy);cases ry;exact SeqAt.EqAt.list_none p.isList hu'
    |bl c=>cases(show y=_ from hy);cases ry;exact SeqAt.EqAt.list_bool c p.isList hu'
    |int c=>cases(show y=_ from hy);obtain⟨t,rfl⟩:=ry;exact SeqAt.EqAt.list_int c t p.isList hu'
    |str c=>cases(show y=_ from hy);obtain⟨t,rfl⟩:=ry;exact SeqAt.EqAt.list_str c t p.isList hu'
    |ty _=>cases oe
    |adr _=>cases oe
    |obj _ _ _=>cases oe
    |dct _ _=>cases oe
   |ty _=>cases od
   |adr _=>cases od
   |obj _ _ _=>cases od
   |dct _ _=>cases od
   |_=>cases fd
def EJ:D->D->Bool
 |.tup _,.tup _=>true
 |.lst _,.lst _=>true
 |_,_=>false
def gL (d e:D):Option Bool:=if(aU d&&aU e&&mU (toV d) (toV e))=true then some (decide (toV d=toV e))else if(EJ d e&&okE d&&okE e&&decide (dep d<=50))=true then some (eqD d e)else none
def EK (K:Frag) (neg:Bool):R2:=λx y H Q=>∃d e b,Is K H d x/\Is K H e y/\gL d e=some b/\Q (.bl (if neg then !b else b)) H
theorem cmpEq_cases (h:gL d e=some b):(aU d=true/\aU e=true/\mU (toV d) (toV e)=true/\b=decide (toV d=toV e))\/(EJ d e=true/\okE d=true/\okE e=true/\dep d<=50/\b=eqD d e):=by
 unfold gL at h;grind
theorem gz (I:Inv X pins σ H s) (hu:X.A.units+60<cLine) (od:okL ds=true) (oe:okL es=true) (hd:cJ ds<=50):∀ (i:Nat) (d e:D) (x y:V) (u w:Value),ds[i]?=some d->es[i]?=some e->Is X.K H d x->Is X.K H e y->RelV x u->RelV y w->SeqAt.EqAt X.A.in1 s u w (eqD d e):=
 λi d e x y u w e1 e2 i1 i2 r1 r2=>xf I 50 X.A.in1 d e x y u w (Nat.le_trans (kr e1) hd) (by rw[ji];omega) (im od e1) (im oe e2) i1 i2 r1 r2
theorem xg (hu:X.A.units+60<cLine):OpR X (compareOp .Eq) (EK X.K false):=by
 intro pins s σ H x y v u Q I rx ry h;obtain⟨d,e,b,hx,hy,hb,q⟩:=h;have hu':X.A.units<cLine:=by omega
 rcases cmpEq_cases hb with⟨f1,f2,sc,rfl⟩|⟨sq,od,oe,hd,rfl⟩
 ·obtain⟨_,e1⟩:=jj hx f1;obtain⟨_,e2⟩:=jj hy f2;exact Hw pins s σ H x y v u Q I rx ry ⟨by rw[e1,e2];exact sc,by rw[e1,e2];exact q⟩
 ·cases d with
  |tup ds=>
   cases e with
   |tup es=>
    obtain⟨a,xs,rfl,q1,l⟩:=hx;obtain⟨c,ys,rfl,q2,l'⟩:=hy;cases rx;cases ry;obtain⟨its,rv,p,_⟩:=I.tuple q1;obtain⟨its',rv',p',_⟩:=I.tuple q2;have hd':cJ ds<=50:=by have:cJ ds+1<=50:=hd;omega
    have e1:its.toArray.size=ds.length:=by rw[size_toArray,<-rv.length,l.len]
    have e2:its'.toArray.size=es.length:=by rw[size_toArray,<-rv'.length,l'.len]
    have hh:=SeqAt.RcAt.tuples (e:=λj=>eqD (ds.getD j .non) (es.getD j .non)) p p' hu' λj h1 h2=>eN (gz I hu od oe hd') l l' rv rv' j h1 h2;rw[e1,e2,bI]at hh;exact hh X.prog X.w X.xe _ ⟨.bl _,H,I,rfl,q⟩
   |_=>cases sq
  |lst ds=>
   cases e with
   |lst es=>
    obtain⟨a,xs,rfl,q1,l⟩:=hx;obtain⟨c,ys,rfl,q2,l'⟩:=hy;cases rx;cases ry;obtain⟨its,rv,p,_⟩:=I.list q1;obtain⟨its',rv',p',_⟩:=I.list q2;have hd':cJ ds<=50:=by have:cJ ds+1<=50:=hd;omega
    have e1:its.toArray.size=ds.length:=by rw[size_toArray,<-rv.length,l.len]
    have e2:its'.toArray.size=es.length:=by rw[size_toArray,<-rv'.length,l'.len]
    by_cases hl:ds.length=es.length
    ·have hh:=SeqAt.RcAt.lists (e:=λj=>eqD (ds.getD j .non) (es.getD j .non)) p.isList p'.isList (by rw[e1,e2,hl]) hu' λj h1 h2=>eN (gz I hu od oe hd') l l' rv rv' j h1 h2;rw[e1,jk ds es hl]at hh;exact hh X.prog X.w X.xe _ ⟨.bl _,H,I,rfl,q⟩
    ·have hh:SeqAt.RcAt X.A s (.ref a) (.ref c) false:=SeqAt.RcAt.lists_lengths p.isList p'.isList (by rw[e1,e2];simpa using hl) hu';rw[show eqD (.lst ds) (.lst es)=false from oN hl]at q;exact hh X.prog X.w X.xe _ ⟨.bl _,H,I,rfl,q⟩
   |_=>cases sq
  |_=>cases sq
theorem xh (hu:X.A.units+60<cLine):OpR X (compareOp .NotEq) (EK X.K true):=by
 intro pins s σ H x y v u Q I rx ry h;obtain⟨d,e,b,hx,hy,hb,q⟩:=h;have hu':X.A.units<cLine:=by omega
 rcases cmpEq_cases hb with⟨f1,f2,sc,rfl⟩|⟨sq,od,oe,hd,rfl⟩
 ·obtain⟨_,e1⟩:=jj hx f1;obtain⟨_,e2⟩:=jj hy f2;exact Hx pins s σ H x y v u Q I rx ry ⟨by rw[e1,e2];exact sc,by rw[e1,e2];exact q⟩
 ·cases d with
  |tup ds=>
   cases e with
   |tup es=>
    obtain⟨a,xs,rfl,q1,l⟩:=hx;obtain⟨c,ys,rfl,q2,l'⟩:=hy;cases rx;cases ry;obtain⟨its,rv,p,_⟩:=I.tuple q1;obtain⟨its',rv',p',_⟩:=I.tuple q2;have hd':cJ ds<=50:=by have:cJ ds+1<=50:=hd;omega
    have e1:its.toArray.size=ds.length:=by rw[size_toArray,<-rv.length,l.len]
    have e2:its'.toArray.size=es.length:=by rw[size_toArray,<-rv'.length,l'.len]
    have hh:=SeqAt.RcNeAt.tuples (e:=λj=>eqD (ds.getD j .non) (es.getD j .non)) p p' hu' λj h1 h2=>eN (gz I hu od oe hd') l l' rv rv' j h1 h2;rw[e1,e2,bI]at hh;exact hh X.prog X.w X.xe _ ⟨.bl _,H,I,rfl,q⟩
   |_=>cases sq
  |lst ds=>
   cases e with
   |lst es=>
    obtain⟨a,xs,rfl,q1,l⟩:=hx;obtain⟨c,ys,rfl,q2,l'⟩:=hy;cases rx;cases ry;obtain⟨its,rv,p,_⟩:=I.list q1;obtain⟨its',rv',p',_⟩:=I.list q2;have hd':cJ ds<=50:=by have:cJ ds+1<=50:=hd;omega
    have e1:its.toArray.size=ds.length:=by rw[size_toArray,<-rv.length,l.len]
    have e2:its'.toArray.size=es.length:=by rw[size_toArray,<-rv'.length,l'.len]
    by_cases hl:ds.length=es.length
    ·have hh:=SeqAt.RcNeAt.lists (e:=λj=>eqD (ds.getD j .non) (es.getD j .non)) p.isList p'.isList (by rw[e1,e2,hl]) hu' λj h1 h2=>eN (gz I hu od oe hd') l l' rv rv' j h1 h2;rw[e1,jk ds es hl]at hh;exact hh X.prog X.w X.xe _ ⟨.bl _,H,I,rfl,q⟩
    ·have hh:SeqAt.RcNeAt X.A s (.ref a) (.ref c) true:=SeqAt.RcNeAt.lists_lengths p.isList p'.isList (by rw[e1,e2];simpa using hl) hu';rw[show eqD (.lst ds) (.lst es)=false from oN hl]at q;exact hh X.prog X.w X.xe _ ⟨.bl _,H,I,rfl,q⟩
   |_=>cases sq
  |_=>cases sq
end
def aF (neg:Bool) (d e:D):Option D:=(gL d e).bind λb=>some (.bl (if neg then !b else b))
theorem uj {K}:R2D K (EK K neg) (aF neg):=λO H x y dx dy d Q hd ix iy e k=>by
 obtain⟨b,e1,e2⟩:=bind_some e;cases e2;exact⟨dx,dy,b,ix.full,iy.full,e1,k _ H (Same.refl _) rfl⟩
section
variable {X:Cx} {pos:Pos} {a b e:Expr}
theorem room60 (r:Room k A):A.units+60<cLine:=by have:=r.un;omega
theorem Im (r:Room k X.A) (ha:PP X a fa) (hb:PP X b fb):PP X (.Compare a [.Eq] [b] pos) (aa (aF false) fa fb):=pp_cmp (xg (room60 r)) uj ha hb (dq _)
theorem Io (r:Room k X.A) (ha:PP X a fa) (hb:PP X b fb):PP X (.Compare a [.NotEq] [b] pos) (aa (aF true) fa fb):=pp_cmp (xh (room60 r)) uj ha hb (dq _)
theorem Ip (r:Room k X.A) (ha:PP X a fa) (hb:PP X b fb):PQ X (.Compare a [.Eq] [b] pos) (ar (aa (aF false) fa fb)):=pq_cmp (xg (room60 r)) uj ha hb (dq _)
theorem Iq (r:Room k X.A) (ha:PP X a fa) (hb:PP X b fb):PQ X (.Compare a [.NotEq] [b] pos) (ar (aa (aF true) fa fb)):=pq_cmp (xh (room60 r)) uj ha hb (dq _)
structure Cn (K:Frag) (mg:Str->Option Value) (x:Str) (d:D):Prop where
 ex:∃v u,mg x=some u/\RelV v u/\∀H,Is K H d v
theorem xi (c:Cn X.K X.mg x d) (hg:Gl X x) (hd:(x==("__debug__":Str))=false:=by decide):PP X (.Name x pos) (λ_=>some d):=by
 obtain⟨v,u,h1,h2,h3⟩:=c.ex;exact Bb hg h1 h2 h3 hd
end
def ItK:Bool->Heap->Addr->Addr->Nat->Prop
 |true,h,it,l,k=>h.IsListIter it l k
 |false,h,it,l,k=>h.IsTupleIter it l k
def CoK:Bool->Heap->Addr->Array Value->Prop
 |true,h,l,its=>h.IsList l its
 |false,h,l,its=>h.IsTuple l its
theorem ItK.at (x:ItK b h it l k) (e:∀o,h.get? it=some o->h'.get? it=some o):ItK b h' it l k:=by
 cases b
 ·exact Heap.IsTupleIter.at x e
 ·exact Heap.IsListIter.at x e
theorem ItK.live (x:ItK b h it l k):∃o n vs,h.get? it=some o/\o.cls=.type n/\o.data=.fields vs/\(n="list_iterator"\/n="tuple_iterator"):=by
 cases b
 ·obtain⟨o,e,c,d⟩:=x;exact⟨o,_,_,e,c,d,.inr rfl⟩
 ·obtain⟨o,e,c,d⟩:=x;exact⟨o,_,_,e,c,d,.inl rfl⟩
section
variable {prog:Program} {w:World} {A:Around} {E:Value->Shared->Prop} {s:Shared}
theorem xj (hit:s.heap.IsTupleIter it t i) (ht:s.heap.IsTuple t its) (hx:its[i]?=some x) (hQ:∀h',h'.IsTupleIter it t (i+1)->Heap.SameBut it s.heap h'->Q x {s with heap:=h'}):wpAny (model prog w) A (Builtin.SmallTypes.nextOf (.ref it)) Q E s:=by
 obtain⟨o,ho,hc,hd⟩:=id hit;obtain⟨ol,hol,_,nl,hdl⟩:=ht;have go:wpAny (model prog w) A.in1 (Builtin.«tuple_iterator.__next__» ⟨[.ref it],[]⟩) (λfin s'=>∃v,fin=.done (.ret v)/\wpAny (model prog w) A (pure v) Q E s') E s:=by
  show wpAny _ _ (field (.ref it) 0>>=_) _ _ s;refine wpAny_bind (wpAny_field ho hd (x:=.ref t) rfl ?_);show wpAny _ _ (if(Value.ref t==Value.none)=true then _ else _) _ _ s;rw[if_neg (show¬ ((Value.ref t==Value.none)=true)from Bool.false_ne_true)];show wpAny _ _ (field (.ref it) 1>>=_) _ _ s;refine wpAny_bind (wpAny_field ho hd (x:=.int i 0) rfl ?_);show wpAny _ _ (seqItems? (.ref t)>>=_) _ _ s;refine wpAny_bind (wpAny_seqItems hol hdl ?_);simp only[Int.toNat_natCast,hx];refine wpAny_bind (wpAny_setField ho hd (by simp) (wpAny_pure ⟨x,rfl,wpAny_pure (hQ _ ⟨_,Heap.get?_update_self _ ho (Obj.isFreed_of_fields (Obj.data_mapFields hd _)),(Obj.cls_mapFields ..).trans hc,?_⟩ (Heap.SameBut.update ..))⟩));rw[Obj.data_mapFields hd];simp[rawInt]
 unfold Builtin.SmallTypes.nextOf;exact wpAny_bind (wpAny_callSpecial?_slot (name:=Str.ofString "__next__") hit.typeIs F.slot_tuple_iterator_next (wpAny_call_entry F.slot_tuple_iterator_next hit.typeIs F.entry_tuple_iterator_next go (F.args_tuple_iterator_next_1 _)))
theorem oO (hh:A.handled=none) (hit:s.heap.IsTupleIter it t i) (ht:s.heap.IsTuple t its) (hx:its[i]?=none) (hE:∀h' e,Heap.ExtBut it s.heap h'->(∃o,h'.get? e=some o/\o.cls=.type "StopIteration")->E (.ref e) {s with heap:=h'}):wpAny (model prog w) A (Builtin.SmallTypes.nextOf (.ref it)) Q E s:=by
 obtain⟨o,ho,hc,hd⟩:=id hit;obtain⟨ol,hol,_,nl,hdl⟩:=ht;unfold Builtin.SmallTypes.nextOf;refine wpAny_bind (wpAny_callSpecial?_slot (name:=Str.ofString "__next__") hit.typeIs F.slot_tuple_iterator_next (wpAny_call_entry F.slot_tuple_iterator_next hit.typeIs F.entry_tuple_iterator_next ?_ (F.args_tuple_iterator_next_1 _)));show wpAny _ _ (field (.ref it) 0>>=_) _ _ s;refine wpAny_bind (wpAny_field ho hd (x:=.ref t) rfl ?_);show wpAny _ _ (if(Value.ref t==Value.none)=true then _ else _) _ _ s;rw[if_neg (show¬ ((Value.ref t==Value.none)=true)from Bool.false_ne_true)];show wpAny _ _ (field (.ref it) 1>>=_) _ _ s;refine wpAny_bind (wpAny_field ho hd (x:=.int i 0) rfl ?_);show wpAny _ _ (seqItems? (.ref t)>>=_) _ _ s;refine wpAny_bind (wpAny_seqItems hol hdl ?_);simp only[Int.toNat_natCast,hx];refine wpAny_bind (wpAny_rule (wpAny_bind (wpAny_setField ho hd (by simp) ?_)));show wpAny _ _ (newExc (.type "StopIteration") []>>=_) _ _ _;refine wpAny_bind ?_;simp only[newExc,newTuple];refine wpAny_bind (wpAny_newObj_type ?_ (by size_fits));refine wpAny_bind (m:=firstArgMember _ _) (wpAny_of_eq (a:=Value.none) (by first|rfl|(simp only[firstArgMember];rfl)) ?_);refine wpAny_newObj_type ?_ (by size_fits);simp only[raiseNew];refine wpAny_bind (wpAny_handled ?_);first|rw[show A.in1.handled=none from hh]|rw[hh]
 refine wpAny_bind (wpAny_pure (wpAny_throw ?_));exact hE _ _ (((Heap.SameBut.update ..).extBut.push _).push _) ⟨_,Heap.get?_push_size _ rfl,rfl⟩
theorem Ir (hit:ItK b s.heap it l i) (ht:CoK b s.heap l its) (hx:its[i]?=some x) (hQ:∀h',ItK b h' it l (i+1)->Heap.SameBut it s.heap h'->Q x {s with heap:=h'}):wpAny (model prog w) A (Builtin.SmallTypes.nextOf (.ref it)) Q E s:=by
 cases b
 ·exact xj hit ht hx hQ
 ·exact wpAny_nextOf_list_item hit ht hx hQ
theorem vI (hh:A.handled=none) (hit:ItK b s.heap it l i) (ht:CoK b s.heap l its) (hx:its[i]?=none) (hE:∀h' e,Heap.ExtBut it s.heap h'->(∃o,h'.get? e=some o/\o.cls=.type "StopIteration")->E (.ref e) {s with heap:=h'}):wpAny (model prog w) A (Builtin.SmallTypes.nextOf (.ref it)) Q E s:=by
 cases b
 ·exact oO hh hit ht hx hE
 ·exact wpAny_nextOf_list_end hh hit ht hx hE
structure ZA (z TI TO i1 i2:Addr):Prop where
 TIz:TI≠z
 TOz:TO≠z
 i1z:i1≠z
 i2z:i2≠z
 TITO:TI≠TO
 TIi1:TI≠i1
 TIi2:TI≠i2
 TOi1:TO≠i1
 TOi2:TO≠i2
 i12:i1≠i2
structure ZL (z TO i1 i2 l:Addr):Prop where
 z:l≠z
 TO:l≠TO
 i1:l≠i1
 i2:l≠i2
structure ZSt (b c:Bool) (z TI TO i1 i2 l1 l2:Addr) (f0:Value) (k:Nat) (h:Heap):Prop where
 ap:ZA z TI TO i1 i2
 hz:IsZip h z TI TO f0
 hI:IsPair h TI (.ref i1) (.ref i2)
 hO:∃a d,IsPair h TO a d
 h1:ItK b h i1 l1 k
 h2:ItK c h i2 l2 k
theorem ItK.ext (x:ItK b h it l k) (e:Heap.SameBut c h h') (hc:it≠c):ItK b h' it l k:=x.at λo q=>e.extBut _ _ hc q
end
section
variable {prog:Program} {w:World} {A:Around} {E:Value->Shared->Prop} {s:Shared}
def lA:Bool->Addr->Obj
 |true,l=>{cls:=.type "list_iterator",data:=.fields #[.ref l,.int 0 0]}
 |false,l=>{cls:=.type "tuple_iterator",data:=.fields #[.ref l,.int 0 0]}
theorem xk (h:CoK b s.heap l its) (hQ:Q (.ref s.heap.objs.size) {s with heap:=s.heap.push (lA b l)}):wpAny (model prog w) A (pyIter (.ref l)) Q E s:=by
 cases b
 ·exact wpAny_pyIter_tuple h hQ
 ·exact wpAny_pyIter_list h hQ
end
section
variable {X:Cx} {pins:List (Addr×Obj)} {σ:List (Option V)} {H:Hp} {s:Shared} {h':Heap}
theorem lB {ch:List Addr} (I:Inv X pins σ H s) (hf:∀b∈ch,H b=none) (k:∀b o,b ∉ ch->s.heap.get? b=some o->h'.get? b=some o):HOk X.prog X.w H h':=λb u e=>by
 have nit:∀b u,H b=some u->b ∉ ch:=λb u e z=>by rw[hf b z]at e;cases e
 refine(I.hok b u e).stay (λc v hc q=>k c v ?_ q) (λ_ q=>q) λ_ _ q=>q;grind
theorem Do {ch:List Addr} (hf:∀b∈ch,ib X pins H b):∀b∈ch,(b∈X.ex\/X.s₀.heap.objs.size<=b)/\b≠X.env.locals/\(∀x c,X.env.cells.lookup x=some c->c≠b)/\∀p∈X.pn++pins,p.1≠b:=λb hb=>by
 obtain⟨f0,f1,f2,f3,f4,f5⟩:=hf b hb;grind
theorem Inv.turnedL {ch:List Addr} (I:Inv X pins σ H s) (hf:∀b∈ch,ib X pins H b) (k:∀b o,b ∉ ch->s.heap.get? b=some o->h'.get? b=some o):Inv X pins σ H {s with heap:=h',toks:=t'}:=by
 refine I.step (g':=s.gens) (d':=s.drawn) (ch:=ch) (Do hf) (λb o _ _ hc e _=>k b o hc e) (λb o _ _ hc e _=>⟨o.slots,k b o hc e⟩) (λ_ _ _ _ n=>n)
  (λb o hc e=>⟨o,k b o hc e⟩) (λ_ _ e=>e) (λ_ _ _ e=>e) (λb ps e=>⟨#[],by rw[e];simp⟩) (λm hm=>?_) (lB I (λb hb=>(hf b hb).1) k) I.bare
 obtain⟨o,es,ep,ho,r⟩:=hm;exact⟨o,es,ep,k _ o (λz=>(hf _ z).2.1 rfl) ho,r⟩
theorem Inv.turnedNew {ch:List Addr} {p:Addr} (I:Inv X pins σ H s) (hf:∀b∈ch,ib X pins H b) (k:∀b o,b ∉ ch->s.heap.get? b=some o->h'.get? b=some o) (hp:s.heap.objs.size<=p) (new:ObjOk X.prog X.w (upd H p o) h' p o):Inv X pins σ (upd H p o) {s with heap:=h',toks:=t'}:=by
 have hn:H p=none:=I.hok.fresh hp;have lt:∀b o,s.heap.get? b=some o->b≠p:=λb o e=>Nat.ne_of_lt (lt_of_lt_of_le (Heap.lt_size e) hp);have keep:∀b u,H b=some u->upd H p o b=some u:=λb u e=>by rw[ah (av e hn)];exact e
 refine I.step (g':=s.gens) (d':=s.drawn) (ch:=ch) (Do hf) (λb o _ _ hc e _=>k b o hc e) (λb o _ _ hc e _=>⟨o.slots,k b o hc e⟩) (λb o _ e n=>by rw[ah (lt b o e)];exact n)
  (λb o hc e=>⟨o,k b o hc e⟩) (λb xs e=>keep b _ e) (λb o u e=>keep b _ e) (λb ps e=>⟨#[],by rw[keep b _ e];simp⟩) (λm hm=>?_) ((lB I (λb hb=>(hf b hb).1) k).adopt hn new) I.bare
 obtain⟨o,es,ep,ho,r⟩:=hm;exact⟨o,es,ep,k _ o (λz=>(hf _ z).2.1 rfl) ho,r⟩
def SqK (b:Bool) (K:Frag) (H:Hp) (a:Addr) (xs:List V):Prop:=if b=true then SqL K H a xs else SqT K H a xs
theorem Inv.coK (I:Inv X pins σ H s) (h:SqK b X.K H a xs):∃its:List Value,Vals xs its/\CoK b s.heap a its.toArray/\xs.length<=sizeLine:=by
 cases b
 ·obtain⟨its,r,t,z⟩:=I.tuple (show SqT X.K H a xs from h);exact⟨its,r,t,z⟩
 ·obtain⟨its,r,t,z⟩:=I.list (show SqL X.K H a xs from h);exact⟨its,r,t.isList,z⟩
theorem Inv.coK_inj (I:Inv X pins σ H s) (h:SqK b X.K H a xs) (h':SqK b X.K H a ys):xs=ys:=by
 cases b
 ·exact I.tuple_inj h h'
 ·exact I.list_inj h h'
end
section
variable {X:Cx} {tg a b e:Expr} {es:List Expr} {p pos:Pos}
theorem SqK.mono {b} {K} (s:Same H H') (h:SqK b K H l xs):SqK b K H' l xs:=by
 cases b
 ·exact s.seqT h
 ·exact s.seq h
theorem EL {K} (h:SqL K H l xs\/SqT K H l xs):∃b,SqK b K H l xs:=by
 rcases h with h|h
 ·exact⟨true,h⟩
 ·exact⟨false,h⟩
def xl:D->Option D
 |.int i=>some (.int (-i))
 |_=>none
theorem EM (ha:PP X a fa):PP X (.UnaryOp .USub a pos) (λY=>(fa Y).bind xl):=λO Y=>(Hu Ef (ha O Y)).imp λσ H Q ⟨E,d,q,k⟩=>by
 obtain⟨c,e1,e2⟩:=bind_some q;refine⟨E,c,e1,λv H1 s1 i1=>?_⟩;cases c with
 |int i=>cases e2;exact⟨i,i1,k _ H1 s1 rfl⟩
 |_=>cases e2
theorem b_max:bootBuiltins "max"=some (.builtin "max"):=by decide+kernel
theorem b_min:bootBuiltins "min"=some (.builtin "min"):=by decide+kernel
def oP:List D->Option D:=un2 λc d=>(intD c).bind λi=>(intD d).bind λj=>some (.int (if j>i then j else i))
def EN:List D->Option D:=un2 λc d=>(intD c).bind λi=>(intD d).bind λj=>some (.int (if j<i then j else i))
theorem rn_max:RnD X.K (λxs H Q=>∃i j,xs=[.int i,.int j]/\Q (.int (if j>i then j else i)) H) oP:=λO H xs ds d Q hd l e k=>by
 obtain⟨c,c',rfl,e⟩:=lu e;obtain⟨i,e1,e⟩:=bind_some e;obtain⟨j,e2,e⟩:=bind_some e;cases e;obtain⟨u,v,rfl,iu,iv⟩:=is2 l;cases intD_some e1;cases intD_some e2;exact⟨i,j,by rw[show u=.int i from iu,show v=.int j from iv],k _ H (Same.refl _) rfl⟩
theorem rn_min:RnD X.K (λxs H Q=>∃i j,xs=[.int i,.int j]/\Q (.int (if j<i then j else i)) H) EN:=λO H xs ds d Q hd l e k=>by
 obtain⟨c,c',rfl,e⟩:=lu e;obtain⟨i,e1,e⟩:=bind_some e;obtain⟨j,e2,e⟩:=bind_some e;cases e;obtain⟨u,v,rfl,iu,iv⟩:=is2 l;cases intD_some e1;cases intD_some e2;exact⟨i,j,by rw[show u=.int i from iu,show v=.int j from iv],k _ H (Same.refl _) rfl⟩
def EO:D->Bool
 |.non=>true
 |_=>false
theorem Bp {K} (h:Is K H d v):decide (v=.non)=EO d:=by
 cases d with
 |non=>cases(show v=_ from h);rfl
 |bl _=>cases(show v=_ from h);rfl
 |int _=>cases(show v=_ from h);rfl
 |str _=>cases(show v=_ from h);rfl
 |ty _=>cases(show v=_ from h);rfl
 |adr _=>cases(show v=_ from h);rfl
 |tup _=>obtain⟨a,xs,rfl,_⟩:=h;rfl
 |lst _=>obtain⟨a,xs,rfl,_⟩:=h;rfl
 |obj _ _ _=>obtain⟨a,Ca,dx,fs,rfl,_⟩:=h;rfl
 |dct _ _=>obtain⟨a,kvs,rfl,_⟩:=h;rfl
def xm (neg:Bool):D->D->Option D
 |d,.non=>some (.bl (if neg then !EO d else EO d))
 |_,_=>none
theorem r_notN {K}:R2D K (λx y H Q=>y=.non/\Q (.bl (!decide (x=.non))) H) (xm true):=λO H x y dx dy d Q _ ix iy e k=>by
 cases dy with
 |non=>cases e;exact⟨iy,k _ H (Same.refl _) (by rw[Bp ix];rfl)⟩
 |_=>cases e
def mX (ds:List D) (lo hi:Option Int):List D:=(ds.drop (HT.sIx ds.length 0 lo)).take (HT.sIx ds.length ds.length hi-HT.sIx ds.length 0 lo)
theorem xo {K} (l:IsL K H ds xs) (lo hi:Option Int):IsL K H (mX ds lo hi) (qk xs lo hi):=by
 unfold mX qk;rw[<-l.len];exact .of (jK _ (jL _ l.paired))
theorem Bq:SlR X (λx lo hi H Q=>∃a xs,x=.ref a/\SqT X.K H a xs/\(HT.sIx xs.length 0 lo=0/\HT.sIx xs.length xs.length hi=xs.length)/\Q (.ref a) H):=by
 intro pins s σ H x v vl vu lo hi sl Q I rx hs pl pu h;obtain⟨a,xs,rfl,hx,hw,q⟩:=h;cases rx;obtain⟨its,r,ht,hz⟩:=I.tuple hx;have hlen:its.toArray.size=xs.length:=by rw[size_toArray];exact r.length.symm
 refine⟨"tuple",_,PyProof.Rows.slot_tuple_getitem.lookup,ht.typeIs,?_⟩;obtain⟨os,hos,hcs,hds⟩:=id hs;have hTs:s.TypeIs (.ref sl) "slice":=⟨os,hos,hcs⟩;unfold getItem;try with_reducible refine wpAny_holding ?_
 first|refine wpAny_bind (wpAny_pure ?_)|skip
 refine wpAny_bind (wpAny_sequenceKey ht.typeIs (by decide) ?_);refine wpAny_bind (wpAny_callSpecial?_slot (name:=Str.ofString "__getitem__") ht.typeIs PyProof.Rows.slot_tuple_getitem (wpAny_call_entry PyProof.Rows.slot_tuple_getitem ht.typeIs entry_tuple_getitem ?_ (args_tuple_getitem _ _)));show wpAny _ _ (Builtin.Tuple.tupleItemsOf (.ref a)>>=_) _ _ s;refine wpAny_bind (tupleItemsOf_ ht (wpAny_bind (wpAny_typeOf hTs ?_)));rw[if_pos (by decide)];refine wpAny_bind (HT.sliceApplied_gen hs pl pu ?_);have hyes:(((HT.sIx its.toArray.size 0 lo:Nat):Int)==0&&(1:Int)==1&&(HT.sIx its.toArray.size its.toArray.size hi-HT.sIx its.toArray.size 0 lo)==its.toArray.size)=true:=by
  rw[hlen,hw.1,hw.2];simp
 show wpAny _ _ (if(((HT.sIx its.toArray.size 0 lo:Nat):Int)==0&&(1:Int)==1&&(HT.sIx its.toArray.size its.toArray.size hi-HT.sIx its.toArray.size 0 lo)==its.toArray.size)=true then _ else _) _ _ s;rw[if_pos hyes];unfold Builtin.Tuple.tupleIsExact;refine wpAny_bind (wpAny_bind (wpAny_typeOf ht.typeIs (wpAny_pure ?_)));simp only[beq_self_eq_true,if_true];exact wpAny_bind (wpAny_rule (wpAny_pure ⟨_,rfl,wpAny_pure ⟨.ref a,H,I,rfl,q⟩⟩))
def PPo (X:Cx) (e:Option Expr) (f:Vv->Option (Option Int)):Prop:=∀O Y,PO X e (λσ H Q=>VE X.K O σ H Y/\∃i,f Y=some i/\∀H',Same H H'->Q i H')
theorem PO.imp {e} (h:PO X e t) (k:∀σ H Q,t' σ H Q->t σ H Q):PO X e t':=λpins s σ H Q I q=>h pins s σ H Q I (k _ _ _ q)
theorem xp:PPo X none (λ_=>some none):=λO Y=>po_none.imp λσ H Q ⟨E,i,q,k⟩=>by
 cases q;exact k H (Same.refl _)
def bv (f:Vv->Option D):Vv->Option (Option Int):=λY=>(f Y).bind λd=>(intD d).bind λi=>some (some i)
theorem xq (h:PP X e f):PPo X (some e) (bv f):=λO Y=>(AU (h O Y)).imp λσ H Q ⟨E,i,q,k⟩=>by
 obtain⟨d,q1,q2⟩:=bind_some q;obtain⟨j,q3,q4⟩:=bind_some q2;cases q4;refine⟨E,d,q1,λv H1 s1 iv=>?_⟩;cases intD_some q3;exact⟨j,iv,k H1 s1⟩
def qx (f:Vv->Option D) (fl fh:Vv->Option (Option Int)):Vv->Option D:=λY=>(f Y).bind λd=>(fl Y).bind λlo=>(fh Y).bind λhi=>match d with
 |.tup ds=>some (.tup (mX ds lo hi))
 |_=>none
def oQ (f:Vv->Option D) (fl fh:Vv->Option (Option Int)):Vv->Option (List D):=λY=>(f Y).bind λd=>(fl Y).bind λlo=>(fh Y).bind λhi=>match d with
 |.lst ds=>some (mX ds lo hi)
 |_=>none
theorem vJ {lo hi} (h:HT.sIx ds.length 0 lo=0/\HT.sIx ds.length ds.length hi=ds.length):mX ds lo hi=ds:=by
 unfold mX;rw[h.1,h.2];simp
theorem EQ {lo hi} (h:PP X e f) (hl:PPo X lo fl) (hh:PPo X hi fh):PP X (.Subscript e (.Slice lo hi none p2) pos) (qx f fl fh):=λO Y=>
 (qj (sl_tup.or Bq) (h O Y) (hl O Y) (hh O Y)).imp λσ H Q ⟨E,d,q,k⟩=>by
 obtain⟨c,q1,q⟩:=bind_some q;obtain⟨l,q2,q⟩:=bind_some q;obtain⟨u,q3,q⟩:=bind_some q;refine⟨E,c,q1,λv H1 s1 iv=>⟨E.grow s1,l,q2,λH2 s2=>⟨E.grow (s1.trans s2),u,q3,λH3 s3=>?_⟩⟩⟩;cases c with
 |tup ds=>
  cases q;have iv':=Is.mono (s2.trans s3).msk _ _ iv;obtain⟨a,xs,rfl,t,il⟩:=iv';have s13:=s1.trans (s2.trans s3);by_cases hw:HT.sIx xs.length 0 l=0/\HT.sIx xs.length xs.length u=xs.length
  ·refine .inr ⟨a,xs,rfl,msk_le.seqT t,hw,k _ H3 s13 ?_⟩;rw[vJ (by rw[il.len];exact hw)];exact⟨a,xs,rfl,t,il⟩
  ·refine .inl ⟨a,xs,rfl,msk_le.seqT t,hw,λp hp=>?_⟩;have hO:=(E.grow s13).fresh hp;exact k _ _ (s13.trans (Same.new hp)) ⟨p,_,rfl,.of (by rw[aM hO,ai]),IsL.mono (Same.new hp).msk _ _ (xo il l u)⟩
 |_=>cases q
theorem xu {lo hi} (h:PP X e f) (hl:PPo X lo fl) (hh:PPo X hi fh):PF X (.Subscript e (.Slice lo hi none p2) pos) (oQ f fl fh):=λO Y=>
 (qj AX (h O Y) (hl O Y) (hh O Y)).imp λσ H Q ⟨E,d,q,k⟩=>by
 obtain⟨c,q1,q⟩:=bind_some q;obtain⟨l,q2,q⟩:=bind_some q;obtain⟨u,q3,q⟩:=bind_some q;refine⟨E,c,q1,λv H1 s1 iv=>⟨E.grow s1,l,q2,λH2 s2=>⟨E.grow (s1.trans s2),u,q3,λH3 s3=>?_⟩⟩⟩;cases c with
 |lst ds=>
  cases q;have iv':=Is.mono (s2.trans s3).msk _ _ iv;obtain⟨a,xs,rfl,t,il⟩:=iv';exact⟨a,xs,rfl,msk_le.seq t,λp hp=>k p _ H3 (s1.trans (s2.trans s3)) hp (xo il l u)⟩
 |_=>cases q
end
inductive Cat where
 |sh
 |top
 |deep
 deriving DecidableEq
mutual
noncomputable def lfD:D->Bool
 |.tup ds=>lfL ds
 |.lst _=>false
 |.obj _ _ _=>false
 |.dct _ _=>false
 |_=>true
noncomputable def lfL:List D->Bool
 |[]=>true
 |d::ds=>lfD d&&lfL ds
end
mutual
noncomputable def Deep (K:Frag) (M H:Hp):D->V->List Addr->Prop
 |.non,v,A=>v=.non/\A=[]
 |.bl b,v,A=>v=.bl b/\A=[]
 |.int i,v,A=>v=.int i/\A=[]
 |.str x,v,A=>v=.str x/\A=[]
 |.ty n,v,A=>v=.ty n/\A=[]
 |.adr a,v,A=>v=.ref a/\A=[]
 |.tup ds,v,A=>∃a xs,v=.ref a/\(M a=some (.tup xs)\/(lfL ds=true/\SqT K M a xs))/\DeepL K M H ds xs A
 |.lst ds,v,A=>∃a xs A',v=.ref a/\H a=some (.lst xs)/\A=a::A'/\DeepL K M H ds xs A'
 |.obj _ _ _,_,_=>False
 |.dct ks ds,v,A=>∃a kvs A',v=.ref a/\H a=some (.dK kvs)/\kvs.map (·.1)=ks/\A=a::A'/\DeepL K M H ds (kvs.map (·.2)) A'
noncomputable def DeepL (K:Frag) (M H:Hp):List D->List V->List Addr->Prop
 |[],xs,A=>xs=[]/\A=[]
 |d::ds,xs,A=>∃x r A1 A2,xs=x::r/\A=A1++A2/\Deep K M H d x A1/\DeepL K M H ds r A2
end
def NL (M M':Hp):Prop:=∀b o,M b=some o->¬Hid (some o)->M' b=some o
theorem NL.of (s:Same M M'):NL M M':=λb o h _=>s b o h
theorem NL.trans (s:NL M M') (t:NL M' M''):NL M M'':=λb o h q=>t b o (s b o h q) q
theorem uk:¬Hid (some (.tup xs)):=by rintro(⟨_,z⟩|⟨_,_,_,z⟩|⟨_,z⟩)<;>cases z
theorem Br:¬Hid (some (.frz o u)):=by rintro(⟨_,z⟩|⟨_,_,_,z⟩|⟨_,z⟩)<;>cases z
theorem NL.seqT {K} (e:NL H H') (h:SqT K H a xs):SqT K H' a xs:=by
 rcases h with(h|⟨o,h⟩)|h
 ·exact .inl (.inl (e _ _ h uk))
 ·exact .inl (.inr ⟨o,e _ _ h Br⟩)
 ·exact .inr h
theorem tupAt {K} (s:NL M M') (h:M a=some (.tup xs)\/(lfL ds=true/\SqT K M a xs)):M' a=some (.tup xs)\/(lfL ds=true/\SqT K M' a xs):=by
 rcases h with h|⟨f,h⟩
 ·exact .inl (s _ _ h uk)
 ·exact .inr ⟨f,s.seqT h⟩
theorem Iu {K} (s:NL M M') (h:M a=some (.tup xs)\/(lfL ds=true/\SqT K M a xs)):SqT K M' a xs:=by
 rcases tupAt s h with h|⟨_,h⟩
 ·exact .of h
 ·exact h
mutual
theorem Deep.frame {K:Frag} {M M' H H':Hp} (s:NL M M'):∀ (d:D) (v:V) (A:List Addr),(∀a∈A,∀o,H a=some o->H' a=some o)->Deep K M H d v A->Deep K M' H' d v A
 |.non,_,_,_,h=>h
 |.bl _,_,_,_,h=>h
 |.int _,_,_,_,h=>h
 |.str _,_,_,_,h=>h
 |.ty _,_,_,_,h=>h
 |.adr _,_,_,_,h=>h
 |.tup ds,_,A,k,⟨a,xs,e,q,l⟩=>⟨a,xs,e,tupAt s q,DeepL.frame s ds xs A k l⟩
 |.lst ds,_,A,k,⟨a,xs,A',e,q,z,l⟩=>⟨a,xs,A',e,k a (by rw[z];exact mem_cons_self) _ q,z,DeepL.frame s ds xs A' (λb hb=>k b (by rw[z];exact mem_cons_of_mem _ hb)) l⟩
 |.obj _ _ _,_,_,_,h=>h.elim
 |.dct ks ds,_,A,k,⟨a,kvs,A',e,q,y,z,l⟩=>⟨a,kvs,A',e,k a (by rw[z];exact mem_cons_self) _ q,y,z,DeepL.frame s ds _ A' (λb hb=>k b (by rw[z];exact mem_cons_of_mem _ hb)) l⟩
theorem DeepL.frame {K:Frag} {M M' H H':Hp} (s:NL M M'):∀ (ds:List D) (xs:List V) (A:List Addr),(∀a∈A,∀o,H a=some o->H' a=some o)->DeepL K M H ds xs A->DeepL K M' H' ds xs A
 |[],_,_,_,h=>h
 |d::ds,_,A,k,⟨x,r,A1,A2,e,z,h,l⟩=>⟨x,r,A1,A2,e,z,Deep.frame s d x A1 (λb hb=>k b (by rw[z];exact mem_append_left _ hb)) h,DeepL.frame s ds r A2 (λb hb=>k b (by rw[z];exact mem_append_right _ hb)) l⟩
end
mutual
theorem Deep.is {K:Frag} {M M' H:Hp} (s:NL M M'):∀ (d:D) (v:V) (A:List Addr),(∀a∈A,∀o,H a=some o->M' a=some o)->Deep K M H d v A->Is K M' d v
 |.non,_,_,_,h=>h.1
 |.bl _,_,_,_,h=>h.1
 |.int _,_,_,_,h=>h.1
 |.str _,_,_,_,h=>h.1
 |.ty _,_,_,_,h=>h.1
 |.adr _,_,_,_,h=>h.1
 |.tup ds,_,A,k,⟨a,xs,e,q,l⟩=>⟨a,xs,e,Iu s q,DeepL.is s ds xs A k l⟩
 |.lst ds,_,A,k,⟨a,xs,A',e,q,z,l⟩=>⟨a,xs,e,.of (k a (by rw[z];exact mem_cons_self) _ q),DeepL.is s ds xs A' (λb hb=>k b (by rw[z];exact mem_cons_of_mem _ hb)) l⟩
 |.obj _ _ _,_,_,_,h=>h.elim
 |.dct ks ds,_,A,k,⟨a,kvs,A',e,q,y,z,l⟩=>⟨a,kvs,e,.inl (k a (by rw[z];exact mem_cons_self) _ q),y,DeepL.is s ds _ A' (λb hb=>k b (by rw[z];exact mem_cons_of_mem _ hb)) l⟩
theorem DeepL.is {K:Frag} {M M' H:Hp} (s:NL M M'):∀ (ds:List D) (xs:List V) (A:List Addr),(∀a∈A,∀o,H a=some o->M' a=some o)->DeepL K M H ds xs A->IsL K M' ds xs
 |[],_,_,_,h=>h.1
 |d::ds,_,A,k,⟨x,r,A1,A2,e,z,h,l⟩=>⟨x,r,e,Deep.is s d x A1 (λb hb=>k b (by rw[z];exact mem_append_left _ hb)) h,DeepL.is s ds r A2 (λb hb=>k b (by rw[z];exact mem_append_right _ hb)) l⟩
end
mutual
theorem Is.deep {K:Frag} {M H:Hp}:∀ (d:D) (v:V),lfD d=true->Is K M d v->Deep K M H d v []
 |.non,_,_,h=>⟨h,rfl⟩
 |.bl _,_,_,h=>⟨h,rfl⟩
 |.int _,_,_,h=>⟨h,rfl⟩
 |.str _,_,_,h=>⟨h,rfl⟩
 |.ty _,_,_,h=>⟨h,rfl⟩
 |.adr _,_,_,h=>⟨h,rfl⟩
 |.tup ds,_,f,⟨a,xs,e,q,l⟩=>⟨a,xs,e,.inr ⟨f,q⟩,IsL.deep ds xs f l⟩
 |.lst _,_,f,_=>by cases f
 |.obj _ _ _,_,f,_=>by cases f
 |.dct _ _,_,f,_=>by cases f
theorem IsL.deep {K:Frag} {M H:Hp}:∀ (ds:List D) (xs:List V),lfL ds=true->IsL K M ds xs->DeepL K M H ds xs []
 |[],_,_,h=>⟨h,rfl⟩
 |d::ds,_,f,⟨x,r,e,h,l⟩=>by
  have f':(lfD d&&lfL ds)=true:=f;rw[and_eq_true]at f';exact⟨x,r,[],[],e,rfl,Is.deep d x f'.1 h,IsL.deep ds r f'.2 l⟩
end
mutual
theorem Deep.lf {K:Frag} {M H:Hp}:∀ (d:D) (v:V) (A:List Addr),lfD d=true->Deep K M H d v A->A=[]
 |.non,_,_,_,h=>h.2
 |.bl _,_,_,_,h=>h.2
 |.int _,_,_,_,h=>h.2
 |.str _,_,_,_,h=>h.2
 |.ty _,_,_,_,h=>h.2
 |.adr _,_,_,_,h=>h.2
 |.tup ds,_,A,f,⟨a,xs,e,q,l⟩=>DeepL.lf ds xs A f l
 |.lst _,_,_,f,_=>by cases f
 |.obj _ _ _,_,_,f,_=>by cases f
 |.dct _ _,_,_,f,_=>by cases f
theorem DeepL.lf {K:Frag} {M H:Hp}:∀ (ds:List D) (xs:List V) (A:List Addr),lfL ds=true->DeepL K M H ds xs A->A=[]
 |[],_,_,_,h=>h.2
 |d::ds,_,A,f,⟨x,r,A1,A2,e,z,h,l⟩=>by
  have f':(lfD d&&lfL ds)=true:=f;rw[and_eq_true]at f';rw[z,Deep.lf d x A1 f'.1 h,DeepL.lf ds r A2 f'.2 l];rfl
end
mutual
theorem Is.nl {K:Frag} {M M':Hp} (s:NL M M'):∀ (d:D) (v:V),lfD d=true->Is K M d v->Is K M' d v
 |.non,_,_,h=>h
 |.bl _,_,_,h=>h
 |.int _,_,_,h=>h
 |.str _,_,_,h=>h
 |.ty _,_,_,h=>h
 |.adr _,_,_,h=>h
 |.tup ds,_,f,⟨a,xs,e,q,l⟩=>⟨a,xs,e,s.seqT q,IsL.nl s ds xs f l⟩
 |.lst _,_,f,_=>by cases f
 |.obj _ _ _,_,f,_=>by cases f
 |.dct _ _,_,f,_=>by cases f
theorem IsL.nl {K:Frag} {M M':Hp} (s:NL M M'):∀ (ds:List D) (xs:List V),lfL ds=true->IsL K M ds xs->IsL K M' ds xs
 |[],_,_,h=>h
 |d::ds,_,f,⟨x,r,e,h,l⟩=>by
  have f':(lfD d&&lfL ds)=true:=f;rw[and_eq_true]at f';exact⟨x,r,e,Is.nl s d x f'.1 h,IsL.nl s ds r f'.2 l⟩
end
def OwnC (K:Frag) (O:Addr->Bool) (H:Hp):Cat->D->V->List Addr->Prop
 |.sh,d,v,A=>A=[]/\Is K (msk O H) d v
 |.top,d,v,A=>∃a ds xs,d=.lst ds/\v=.ref a/\A=[a]/\H a=some (.lst xs)/\IsL K (msk O H) ds xs
 |.deep,d,v,A=>Deep K (msk O H) H d v A
theorem OwnC.frame {K} (s:Same (msk O H) (msk O' H')) (k:∀a∈A,∀o,H a=some o->H' a=some o) (h:OwnC K O H c d v A):OwnC K O' H' c d v A:=by
 cases c with
 |sh=>exact⟨h.1,Is.mono s d v h.2⟩
 |top=>
  obtain⟨a,ds,xs,e1,e2,e3,e4,l⟩:=h;exact⟨a,ds,xs,e1,e2,e3,k a (by rw[e3];exact mem_cons_self) _ e4,IsL.mono s ds xs l⟩
 |deep=>exact Deep.frame (NL.of s) d v A k h
theorem OwnC.is {K} (s:Same (msk O H) (msk O' H)) (k:∀a∈A,O' a=false) (h:OwnC K O H c d v A):Is K (msk O' H) d v:=by
 cases c with
 |sh=>exact Is.mono s d v h.2
 |top=>
  obtain⟨a,ds,xs,e1,e2,e3,e4,l⟩:=h;subst e1;exact⟨a,xs,e2,.of (by rw[aM (k a (by rw[e3];exact mem_cons_self))];exact e4),IsL.mono s ds xs l⟩
 |deep=>exact Deep.is (NL.of s) d v A (λa ha o e=>by rw[aM (k a ha)];exact e) h
abbrev Sl:=Cat×D
abbrev Ev:=List (Option Sl)
structure Bs where
 H:Hp
 O:Addr->Bool
structure EnvOk (K:Frag) (B:Bs) (O:Addr->Bool) (σ:St) (H:Hp) (Y:Ev):Prop where
 same:Same B.H H
 bdom:∀b,B.O b=true->B.H b≠none
 sub:∀b,B.O b=true->O b=true
 lis:∀b,O b=true->Hid (H b)
 len:σ.length=Y.length
 fp:∃F:Nat->List Addr,(∀ (i:Nat) (s:Sl),Y[i]?=some (some s)->∃v,σ[i]?=some (some v)/\OwnC K O H s.1 s.2 v (F i))/\
  (∀i,(F i).Nodup)/\(∀i j a,a∈F i->a∈F j->i=j)/\∀i a,a∈F i->O a=true/\B.H a=none
def noO:Addr->Bool:=λ_=>false
theorem fm:msk noO H=H:=by constructor<;>grind
def vw (Y:Ev):Vv:=Y.map λs=>s.map (·.2)
def Bt:Option Sl->Option D
 |some (.sh,d)=>some d
 |some (_,d)=>if lfD d then some d else none
 |none=>none
def shv (Y:Ev):Vv:=Y.map Bt
def io (Y:Ev):Ev:=Y.map λs=>s.map λx=>(Cat.sh,x.2)
section
variable {K:Frag} {B:Bs} {O:Addr->Bool} {σ:St} {H H':Hp} {Y:Ev}
theorem EnvOk.dom (E:EnvOk K B O σ H Y):∀b,O b=true->H b≠none:=λb h=>(E.lis b h).ne
theorem EnvOk.nl (E:EnvOk K B O σ H Y):NL H (msk O H):=λb o h q=>by
 cases e:O b with
 |false=>rw[aM e];exact h
 |true=>
  have h':=E.lis b e;rw[h]at h';exact(q h').elim
theorem EnvOk.grow (E:EnvOk K B O σ H Y) (s:Same H H'):EnvOk K B O σ H' Y where
 same:=E.same.trans s
 bdom:=E.bdom
 sub:=E.sub
 lis:=λb h=>(E.lis b h).same s
 len:=E.len
 fp:=by
  obtain⟨F,h1,h2,h3,h4⟩:=E.fp;refine⟨F,λi x q=>?_,h2,h3,h4⟩;obtain⟨v,e,o⟩:=h1 i x q;exact⟨v,e,o.frame s.msk λa _ u hu=>s _ _ hu⟩
theorem EnvOk.fresh (E:EnvOk K B O σ H Y) (h:H p=none):O p=false:=fV E.dom h
theorem oR {α β:Type} {f} {l:List (Option α)} {i:Nat} {y:β} (h:(l.map f)[i]?=some (some y)):∃x,l[i]?=some x/\f x=some y:=by grind
theorem EnvOk.view (E:EnvOk K B O σ H Y):VE K noO σ H (vw Y) where
 lis:=λb h=>by cases h
 len:=by unfold vw;rw[length_map];exact E.len
 sh:=λi d q=>by
  obtain⟨F,h1,h2,h3,h4⟩:=E.fp;obtain⟨x,e,z⟩:=oR q;cases x with
  |none=>cases z
  |some s=>
   cases z;obtain⟨v,e1,o⟩:=h1 i s e;exact⟨v,e1,o.is (O':=noO) (by rw[fm];exact msk_le) λ_ _=>rfl⟩
theorem EnvOk.viewS (E:EnvOk K B O σ H Y):VE K O σ H (shv Y) where
 lis:=E.lis
 len:=by unfold shv;rw[length_map];exact E.len
 sh:=λi d q=>by
  obtain⟨F,h1,h2,h3,h4⟩:=E.fp;obtain⟨x,e,z⟩:=oR q;cases x with
  |none=>cases z
  |some s=>
   obtain⟨c,d'⟩:=s;obtain⟨v,e1,o⟩:=h1 i _ e;refine⟨v,e1,?_⟩;cases c with
   |sh=>cases z;exact o.2
   |top=>
    obtain⟨a,ds,xs,z1,_⟩:=o;have z':(if lfD d' then some d' else none)=some d:=z;rw[show d'=.lst ds from z1]at z';cases z'
   |deep=>
    obtain⟨f,z'⟩:=aw (show(if lfD d'=true then some d' else none)=some d from z);subst z';have hA:=Deep.lf d' v (F i) f o;exact Deep.is (NL.of (Same.refl _)) d' v (F i) (λa ha=>by rw[hA]at ha;cases ha) o
theorem EnvOk.frozen (E:EnvOk K B O σ H Y):EnvOk K B B.O σ H (io Y)/\Same (msk O H) (msk B.O H):=by
 have le:Same (msk O H) (msk B.O H):=λb o h=>by
  obtain⟨h1,h2⟩:=aQ h;rw[aM ?_];exact h2;cases e:B.O b with
  |false=>rfl
  |true=>rw[E.sub b e]at h1;cases h1
 refine⟨⟨E.same,E.bdom,λ_ h=>h,λb h=>E.lis b (E.sub b h),by unfold io;rw[length_map];exact E.len,λ_=>[],λi s q=>?_,λ_=>List.nodup_nil,λ_ _ _ h=>(nomatch h),λ_ _ h=>(nomatch h)⟩,le⟩;obtain⟨F,h1,h2,h3,h4⟩:=E.fp;obtain⟨x,e,z⟩:=oR q;cases x with
 |none=>cases z
 |some s'=>
  cases z;obtain⟨v,e1,o⟩:=h1 i _ e;refine⟨v,e1,rfl,o.is le λa ha=>?_⟩;cases e:B.O a with
  |false=>rfl
  |true=>exact absurd (h4 i a ha).2 (E.bdom a e)
theorem EnvOk.viewF (E:EnvOk K B O σ H Y):VE K B.O σ H (vw Y):=by
 have h:=E.frozen.1.viewS;have e:shv (io Y)=vw Y:=by
  unfold shv io vw;rw[List.map_map];apply List.map_congr_left;intro x _;cases x<;>rfl
 rw[e]at h;exact h
theorem EnvOk.more (E:EnvOk K B O σ H Y) {c:Cat} {d:D} {v:V} {A:List Addr} {O':Addr->Bool} (s:Same H H') (le:Same (msk O H) (msk O' H')) (hO:∀b,O' b=true->O b=true\/b∈A) (hO2:∀b,O b=true->O' b=true) (hO3:∀b∈A,O' b=true)
  (hl:∀a∈A,Hid (H' a)) (nd:A.Nodup) (fr:∀a∈A,H a=none) (h:OwnC K O' H' c d v A):EnvOk K B O' (σ++[some v]) H' (Y++[some (c,d)]) where
 same:=E.same.trans s
 bdom:=E.bdom
 sub:=λb q=>hO2 b (E.sub b q)
 lis:=λb q=>by
  rcases hO b q with q|q
  ·exact(E.lis b q).same s
  ·exact hl b q
 len:=by rw[length_append,length_append,E.len];rfl
 fp:=by
  obtain⟨F,h1,h2,h3,h4⟩:=E.fp;have no:∀i a,a∈F i->a ∉ A:=λi a ha hA=>E.dom a (h4 i a ha).1 (fr a hA);refine⟨λi=>if i=Y.length then A else F i,λi x q=>?_,λi=>?_,λi j a hi hj=>?_,λi a hi=>?_⟩
  ·by_cases hi:i=Y.length
   ·subst hi;rw[List.getElem?_append_right (le_refl _)]at q;simp at q;subst q;refine⟨v,?_,by simp only[if_true];exact h⟩;rw[List.getElem?_append_right (Nat.le_of_eq E.len),E.len];simp
   ·have hi2:i<Y.length:=by
     by_cases h:i<Y.length
     ·exact h
     ·rw[List.getElem?_append_right (by omega)]at q;have:i-Y.length≠0:=by omega
      cases hk:i-Y.length with
      |zero=>omega
      |succ m=>rw[hk]at q;simp at q
    rw[getElem?_append_left hi2]at q;obtain⟨w,e,o⟩:=h1 i x q;refine⟨w,?_,?_⟩
    ·rw[getElem?_append_left (by rw[E.len];exact hi2)];exact e
    ·simp only[if_neg hi];exact o.frame le λa ha u hu=>s _ _ hu
  ·dsimp only;split
   ·exact nd
   ·exact h2 i
  ·dsimp only at hi hj;split at hi<;>split at hj
   ·omega
   ·exact absurd hi (no j a hj)
   ·exact absurd hj (no i a hi)
   ·exact h3 i j a hi hj
  ·dsimp only at hi;split at hi
   ·exact⟨hO3 a hi,E.same.free (fr a hi)⟩
   ·exact⟨hO2 a (h4 i a hi).1,(h4 i a hi).2⟩
theorem getElem?_last {α:Type} (l:List α) (x:α):(l++[x])[l.length]?=some x:=by simp
theorem dR {α:Type} {l} {x} (h:i≠l.length) {y:α} (e:(l++[x])[i]?=some y):l[i]?=some y:=by grind
theorem EnvOk.put {v:V} {s:Sl} (E:EnvOk K B O (σ++[some v]) H (Y++[some s])) (i:Nat):EnvOk K B O (σ.set i (some v)) H (Y.set i (some s)) where
 same:=E.same
 bdom:=E.bdom
 sub:=E.sub
 lis:=E.lis
 len:=by have:=E.len;simp at this⊢;exact this
 fp:=by
  obtain⟨F,h1,h2,h3,h4⟩:=E.fp;have len:σ.length=Y.length:=by have:=E.len;simp at this;exact this
  obtain⟨v',e1,o1⟩:=h1 Y.length s (getElem?_last _ _);rw[<-len,getElem?_last]at e1;cases e1;refine⟨λj=>if j=i then F Y.length else if j=Y.length then[]else F j,λj x q=>?_,λj=>?_,λj k a hj hk=>?_,λj a hj=>?_⟩
  ·rcases get_set_some q with⟨e,q'⟩|⟨e,q'⟩
   ·cases q';subst e;have hi:j<σ.length:=by rw[len];exact nN q
    exact⟨v,by simp[hi],by simp only[if_true];exact o1⟩
   ·have hj:j≠Y.length:=by
     have:=(List.getElem?_eq_some_iff.mp q').1;omega
    obtain⟨w,e2,o2⟩:=h1 j x (by rw[getElem?_append_left (List.getElem?_eq_some_iff.mp q').1];exact q');refine⟨w,?_,by simp only[if_neg e,if_neg hj];exact o2⟩;rw[List.getElem?_set_ne (Ne.symm e)];exact dR (by rw[len];exact hj) e2
  ·dsimp only;split
   ·exact h2 _
   ·split
    ·exact List.nodup_nil
    ·exact h2 _
  ·dsimp only at hj hk;split at hj
   ·split at hk
    ·omega
    ·split at hk
     ·cases hk
     ·have:=h3 _ _ a hj hk;omega
   ·split at hj
    ·cases hj
    ·split at hk
     ·have:=h3 _ _ a hj hk;omega
     ·split at hk
      ·cases hk
      ·exact h3 _ _ a hj hk
  ·dsimp only at hj;split at hj
   ·exact h4 _ a hj
   ·split at hj
    ·cases hj
    ·exact h4 _ a hj
theorem EnvOk.setSh (E:EnvOk K B O σ H Y) (h:Is K (msk O H) d v):EnvOk K B O (σ.set i (some v)) H (Y.set i (some (.sh,d))):=
 (E.more (c:=.sh) (A:=[]) (O':=O) (Same.refl _) (Same.refl _) (λ_ h=>.inl h) (λ_ h=>h) (λ_ h=>(nomatch h)) (λ_ h=>(nomatch h)) List.nodup_nil (λ_ h=>(nomatch h)) ⟨rfl,h⟩).put i
end
mutual
theorem Deep.lists {K:Frag} {M H:Hp}:∀ (d:D) (v:V) (A:List Addr),Deep K M H d v A->∀a∈A,Hid (H a)
 |.non,_,_,h,_,q=>by rw[h.2]at q;cases q
 |.bl _,_,_,h,_,q=>by rw[h.2]at q;cases q
 |.int _,_,_,h,_,q=>by rw[h.2]at q;cases q
 |.str _,_,_,h,_,q=>by rw[h.2]at q;cases q
 |.ty _,_,_,h,_,q=>by rw[h.2]at q;cases q
 |.adr _,_,_,h,_,q=>by rw[h.2]at q;cases q
 |.tup ds,_,A,⟨a,xs,e,_,l⟩,b,q=>DeepL.lists ds xs A l b q
 |.lst ds,_,A,⟨a,xs,A',e,h,z,l⟩,b,q=>by
  rw[z]at q;rcases mem_cons.mp q with rfl|q
  ·exact .inl ⟨xs,h⟩
  ·exact DeepL.lists ds xs A' l b q
 |.obj _ _ _,_,_,h,_,_=>h.elim
 |.dct ks ds,_,A,⟨a,kvs,A',e,h,y,z,l⟩,b,q=>by
  rw[z]at q;rcases mem_cons.mp q with rfl|q
  ·exact .inr (.inr ⟨kvs,h⟩)
  ·exact DeepL.lists ds _ A' l b q
theorem DeepL.lists {K:Frag} {M H:Hp}:∀ (ds:List D) (xs:List V) (A:List Addr),DeepL K M H ds xs A->∀a∈A,Hid (H a)
 |[],_,_,h,_,q=>by rw[h.2]at q;cases q
 |d::ds,_,A,⟨x,r,A1,A2,e,z,h,l⟩,b,q=>by
  rw[z]at q;rcases mem_append.mp q with q|q
  ·exact Deep.lists d x A1 h b q
  ·exact DeepL.lists ds r A2 l b q
end
theorem DeepL.len {K}:∀ {ds:List D} {xs:List V} {A:List Addr},DeepL K M H ds xs A->ds.length=xs.length
 |[],_,_,h=>by rw[h.1];rfl
 |_::_,_,_,⟨x,r,A1,A2,e,z,h,l⟩=>by rw[e,length_cons,length_cons,DeepL.len l]
theorem DeepL.snoc {K} (h:Deep K M H y v A'):∀ {ds:List D} {xs:List V} {A:List Addr},DeepL K M H ds xs A->DeepL K M H (ds++[y]) (xs++[v]) (A++A')
 |[],_,_,l=>by
  rw[l.1,l.2];exact⟨v,[],A',[],rfl,by simp,h,rfl,rfl⟩
 |d::ds,_,_,⟨x,r,A1,A2,e,z,q,l⟩=>by
  rw[e,z];exact⟨x,r++[v],A1,A2++A',rfl,by rw[List.append_assoc],q,DeepL.snoc h l⟩
def PU (X:Cx) (e:Expr) (t:TE):Prop:=PE X e t/\∀ (i:Nat) (x:Str) (px spos:Pos),X.N.Nodup->X.N[i]?=some x->X.env.scope.names.lookup x=some .local->
 swapsWith e (some (.Name x px)) spos.line X.env=pure true->PS X (.Assign [.Name x px] e spos) (wD t (p9 i))
theorem PU.imp (h:PU X e t) (k:∀σ H Q,t' σ H Q->t σ H Q):PU X e t':=
 ⟨h.1.imp k,λi x px spos a b c d=>(h.2 i x px spos a b c d).imp λEn σ H q=>k σ H _ q⟩
theorem PE.by2 (h1:PE X e t1) (h2:PE X e t2) (k:∀σ H Q,t σ H Q->t1 σ H Q\/t2 σ H Q):PE X e t:=λpins s σ H Q I q=>(k σ H Q q).elim (h1 pins s σ H Q I) (h2 pins s σ H Q I)
theorem PS.by2 (h1:PS X e t1) (h2:PS X e t2) (k:∀En σ H,t En σ H->t1 En σ H\/t2 En σ H):PS X e t:=λpins s σ H Q I q=>(k Q σ H q).elim (h1 pins s σ H Q I) (h2 pins s σ H Q I)
theorem PU.by2 (h1:PU X e t1) (h2:PU X e t2) (k:∀σ H Q,t σ H Q->t1 σ H Q\/t2 σ H Q):PU X e t:=
 ⟨h1.1.by2 h2.1 k,λi x px spos a b c d=>(h1.2 i x px spos a b c d).by2 (h2.2 i x px spos a b c d) λEn σ H q=>k σ H _ q⟩
def bK:Expr->Bool
 |.ListComp _ _ _ _=>true
 |.SetComp _ _ _ _=>true
 |.DictComp _ _ _ _ _=>true
 |_=>false
theorem swaps_no (h:bK e=false) (t:Option Expr) (l:Nat) (env:Env):swapsWith e t l env=pure false:=by
 cases e<;>first|rfl|cases h
theorem PE.pu (h:PE X e t) (hc:bK e=false):PU X e t:=⟨h,λi x px spos _ _ _ q=>by
 rw[swaps_no hc]at q;have q':(Sem.pure false:Sem Bool)=Sem.pure true:=q;cases q'⟩
theorem ul (hc:X.calm=true) (S:CSc X scope ks) (hi:PI X tg iter wi) (hg:∀C s H fp,PG (cxC X scope C s H fp) tg g) (htt:∀C s H fp,PTs (cxC X scope C s H fp) ifs tt) (he:∀C s H fp,PE (cxC X scope C s H fp) elt te) (hs:∀x,foldedSetIterable iter X.env x=pure x):PU X (.ListComp elt [⟨tg,iter,ifs,0⟩] scope pos) (qp wi ks g tt te):=
 ⟨A7 hc S hi hg htt he hs,λi x px spos hN hx hl hsw=>A8 hN hx hl hc S hi hg htt he hsw hs⟩
def tFr (K:Frag) (Y:Vv) (o:Option D):TE:=λσ H Q=>VE K noO σ H Y/\∃d,o=some d/\∀v H' A,Same H H'->Deep K H' H' d v A->A.Nodup->(∀a∈A,H a=none)->Q v H'
def K4 (K:Frag) (Y:Vv) (o:Option (List D)):TA:=λσ H Q=>VE K noO σ H Y/\∃ds,o=some ds/\∀vs H' A,Same H H'->DeepL K H' H' ds vs A->A.Nodup->(∀a∈A,H a=none)->Q vs H'
def PFr (X:Cx) (e:Expr) (f:Vv->Option D):Prop:=∀Y,PU X e (tFr X.K Y (f Y))
def qy (X:Cx) (es:List Expr) (f:Vv->Option (List D)):Prop:=∀Y,PA X es (K4 X.K Y (f Y))
def PPu (X:Cx) (e:Expr) (f:Vv->Option D):Prop:=∀O Y,PU X e (tP X.K O Y (f Y))
def PFu (X:Cx) (e:Expr) (f:Vv->Option (List D)):Prop:=∀O Y,PU X e (tPF X.K O Y (f Y))
section
variable {X:Cx} {e:Expr} {es:List Expr} {pos:Pos}
def lfO (o:Option D):Option D:=o.bind λd=>if lfD d then some d else none
def oS (o:Option (List D)):Option D:=o.bind λds=>if lfL ds then some (.lst ds)else none
theorem ER {K} (h:tFr K Y (lfO o) σ H Q):tP K noO Y o σ H Q:=by
 obtain⟨E,d,e,k⟩:=h;obtain⟨d',e1,e2⟩:=bind_some e;obtain⟨f,e3⟩:=aw e2;subst e3;refine⟨E,d',e1,λv H' s i=>k v H' [] s ?_ List.nodup_nil λ_ q=>(nomatch q)⟩;rw[fm]at i;exact Is.deep d' v f i
theorem Bu {K} (h:tFr K Y (oS o) σ H Q):tPF K noO Y o σ H Q:=by
 obtain⟨E,d,e,k⟩:=h;obtain⟨ds,e1,e2⟩:=bind_some e;obtain⟨f,e3⟩:=aw e2;subst e3;refine⟨E,ds,e1,λp xs H' s hp l=>?_⟩;rw[fm]at l;refine k _ _ [p] (s.trans (Same.new hp)) ⟨p,xs,[],rfl,ai,rfl,?_⟩ (by simp) λa ha=>?_
 ·exact DeepL.frame (NL.of (Same.new hp)) ds xs [] (λ_ q=>(nomatch q)) (IsL.deep (H:=H') ds xs f l)
 ·rw[mem_singleton.mp ha];exact s.free hp
theorem Dp (h:PPu X e f):PFr X e (λY=>lfO (f Y)):=λY=>(h noO Y).imp λσ H Q q=>ER q
theorem ES (h:PFu X e f):PFr X e (λY=>oS (f Y)):=λY=>(h noO Y).imp λσ H Q q=>Bu q
def orO {α β:Type} (f g:α->Option β):α->Option β:=λx=>match f x with|some y=>some y|none=>g x
theorem or_some {x:α} {y:β} (h:orO f g x=some y):f x=some y\/g x=some y:=by grind [orO]
theorem Dq (h1:PFr X e f) (h2:PFr X e g):PFr X e (orO f g):=λY=>(h1 Y).by2 (h2 Y) λσ H Q ⟨E,d,q,k⟩=>by
 rcases or_some q with q|q;all_goals grind
theorem iM:PFr X e (λ_=>none):=λY=>⟨λ_ _ _ _ _ _ ⟨_,_,q,_⟩=>(by cases q),λ_ _ _ _ _ _ _ _ _ _ _ _ _ _ ⟨_,_,q,_⟩=>(by cases q)⟩
theorem oU:PPu X e (λ_=>none):=λO Y=>⟨λ_ _ _ _ _ _ ⟨_,_,q,_⟩=>(by cases q),λ_ _ _ _ _ _ _ _ _ _ _ _ _ _ ⟨_,_,q,_⟩=>(by cases q)⟩
theorem cQ:PFu X e (λ_=>none):=λO Y=>⟨λ_ _ _ _ _ _ ⟨_,_,q,_⟩=>(by cases q),λ_ _ _ _ _ _ _ _ _ _ _ _ _ _ ⟨_,_,q,_⟩=>(by cases q)⟩
theorem xv (h1:PPu X e f) (h2:PPu X e g):PPu X e (orO f g):=λO Y=>(h1 O Y).by2 (h2 O Y) λσ H Q ⟨E,d,q,k⟩=>by
 rcases or_some q with q|q;all_goals grind
theorem um:qy X [] (λ_=>some []):=λY=>pa_nil.imp λσ H Q ⟨E,ds,e,k⟩=>by
 cases e;exact k [] H [] (Same.refl _) ⟨rfl,rfl⟩ List.nodup_nil λ_ q=>(nomatch q)
theorem Deep.have {K} (h:Deep K M H d v A) (q:a∈A):H a≠none:=by
 exact(Deep.lists d v A h a q).ne
theorem frs_cons (h:PFr X e f) (hr:qy X es g) (hs:starEach (e::es) X.env=(false,eval e X.env)::starEach es X.env):qy X (e::es) (ag f g):=
 λY=>(bi (h Y).1 (hr Y) hs).imp λσ H Q ⟨E,ds,q,k⟩=>by
 obtain⟨d,e1,q⟩:=bind_some q
 obtain⟨r,e2,q⟩:=bind_some q
 cases q
 refine⟨E,d,e1,λv H1 A1 s1 i1 n1 f1=>⟨E.grow s1,r,e2,λvs H2 A2 s2 i2 n2 f2=>k (v::vs) H2 (A1++A2) (s1.trans s2) ⟨v,vs,A1,A2,rfl,rfl,Deep.frame (NL.of s2) d v A1 (λa _ o h=>s2 _ _ h) i1,i2⟩ ?_ ?_⟩⟩
 ·refine List.nodup_append.mpr ⟨n1,n2,λa ha b hb z=>?_⟩;subst z;exact i1.have ha (f2 a hb)
 ·intro a ha;rcases mem_append.mp ha with ha|ha
  ·exact f1 a ha
  ·exact s1.free (f2 a ha)
theorem xw (h:qy X es g):PFr X (.List es pos) (λY=>(ck (g Y)).bind λds=>some (.lst ds)):=λY=>PE.pu ((wM (h Y)).imp λσ H Q ⟨E,d,q,k⟩=>by
 obtain⟨ds,z,q2⟩:=bind_some q;cases q2;obtain⟨e1,e2⟩:=cP z;refine⟨E,ds,e1,λvs H1 A s1 l n f=>⟨by rw[<-l.len];exact Nat.le_of_lt e2,λp hp=>?_⟩⟩;have hpA:p ∉ A:=λz=>by
  exact(DeepL.lists ds vs A l p z).ne (hp)
 refine k _ _ (p::A) (s1.trans (Same.new hp)) ⟨p,vs,A,rfl,ai,rfl,DeepL.frame (NL.of (Same.new hp)) ds vs A (λa _ o h=>Same.new hp _ _ h) l⟩ (List.nodup_cons.mpr ⟨hpA,n⟩) λa ha=>?_;rcases mem_cons.mp ha with rfl|ha
 ·exact s1.free hp
 ·exact f a ha) rfl
theorem ET {x1} (h:qy X es g):PFr X (.Tuple es x1 pos) (λY=>(ck (g Y)).bind λds=>some (.tup ds)):=λY=>PE.pu ((se (h Y)).imp λσ H Q ⟨E,d,q,k⟩=>by
 obtain⟨ds,z,q2⟩:=bind_some q;cases q2;obtain⟨e1,e2⟩:=cP z;refine⟨E,ds,e1,λvs H1 A s1 l n f=>⟨by rw[<-l.len];exact Nat.le_of_lt e2,λp hp=>?_⟩⟩;exact k _ _ A (s1.trans (Same.new hp)) ⟨p,vs,rfl,.inl ai,DeepL.frame (NL.of (Same.new hp)) ds vs A (λa _ o h=>Same.new hp _ _ h) l⟩ n f) rfl
abbrev xFr (K:Frag) (f:Vv->Option D):TE:=λσ H Q=>∃z:Vv,tFr K z (f z) σ H Q
theorem sv {K} (h:tFr K Y ((au ks fi g ft fe Y).bind λds=>some (.lst ds)) σ H Q):
  qp (tJ K noO Y (fi Y)) ks (xG K ks g) (xT K ft) (xFr K fe) σ H Q:=by
 obtain⟨E,d,ee,k⟩:=h
 obtain⟨tot,ef,ed⟩:=bind_some ee
 cases ed
 obtain⟨ds,e1,e⟩:=bind_some ef
 obtain⟨e2,hz⟩:=cP e
 refine⟨E,ds,e1,λJ H1 s1 it=>⟨λi m ys H2=>i<=ds.length/\m=ds.length-i/\Same H1 H2/\∃rs rest A,DeepL K H2 H2 rs ys A/\A.Nodup/\(∀a∈A,H a=none)/\nV (iL g ft fe (dQ ks Y)) (ds.drop i)=some rest/\tot=rs++rest,
  ⟨ds.length,Nat.zero_le _,by simp,Same.refl _,[],tot,[],⟨rfl,rfl⟩,List.nodup_nil,λ_ q=>(nomatch q),by simpa using e2,rfl⟩,?_⟩⟩
 rintro i m ys H2 ⟨hi,rfl,s2,rs,rest,A,il,nd,fr,er,et⟩
 have E2:VE K noO σ H2 Y:=E.grow (s1.trans s2)
 have hit:=it i H2 noO s2.msk E2.dom
 have hlen:ys.length<sizeLine:=by
  rw[<-il.len];have:rs.length<=tot.length:=by rw[et,length_append];omega
  omega
 by_cases hlt:i<ds.length
 ·refine .inr ?_;have hd:ds[i]?=some ds[i]:=getElem?_eq_getElem hlt;obtain⟨go,yl⟩:=hit.1 _ hd;refine⟨go,hlen,λx H3 hy=>?_⟩;obtain⟨s3,ix⟩:=yl x H3 hy;rw[List.drop_eq_getElem_cons hlt]at er;obtain⟨o,eo,er⟩:=bind_some (show(iL g ft fe (dQ ks Y) ds[i]).bind _=some rest from er);obtain⟨rest',er',er⟩:=bind_some er;obtain⟨Y1,g1,eo⟩:=bind_some eo;obtain⟨c,c1,eo⟩:=bind_some eo;refine⟨⟨noO,dQ ks Y,ds[i]⟩,(E2.grow s3).wiped ks,ix,Y1,g1,λσ4 E4 l4 k4=>⟨⟨l4,λj w hw=>?_⟩,⟨noO,Y1⟩,E4,c,c1,λH5 s5=>?_⟩⟩
  ·exact k4 j w (wipe_iff.mp hw).2 hw
  ·have hm:ds.length-(i+1)<ds.length-i:=by omega
   cases c with
   |true=>
    rw[if_pos rfl]at eo;refine A4 ?_;obtain⟨y,y1,eo⟩:=bind_some eo;cases eo;refine⟨Y1,E4.grow s5,y,y1,λv H6 A' s6 iv nv fv=>⟨_,hm,hlt,rfl,s2.trans (s3.trans (s5.trans s6)),rs++[y],rest',A++A',?_,?_,?_,er',?_⟩⟩
    ·have s36:=s3.trans (s5.trans s6);have il':=DeepL.frame (NL.of s36) rs ys A (λa _ o h=>s36 _ _ h) il;exact DeepL.snoc iv il'
    ·refine List.nodup_append.mpr ⟨nd,nv,λa ha b hb z=>?_⟩;subst z;exact((DeepL.lists rs ys A il a ha).same (s3.trans s5)).ne (fv a hb)
    ·intro a ha;rcases mem_append.mp ha with ha|ha
     ·exact fr a ha
     ·exact(s1.trans (s2.trans (s3.trans s5))).free (fv a ha)
    ·rw[et,<-Option.some.inj er,List.append_assoc];rfl
   |false=>
    rw[if_neg Bool.false_ne_true]at eo;refine A3 ?_;cases eo;have s35:=s3.trans s5;refine⟨_,hm,hlt,rfl,s2.trans s35,rs,rest',A,DeepL.frame (NL.of s35) rs ys A (λa _ o h=>s35 _ _ h) il,nd,fr,er',?_⟩;rw[et,<-Option.some.inj er]
 ·have hie:i=ds.length:=by omega
  subst hie;refine .inl ⟨hit.2 (le_refl _),Nat.le_of_lt hlen,λp hp=>?_⟩;rw[List.drop_of_length_le (le_refl _)]at er;cases er;rw[List.append_nil]at et;subst et;have hpA:p ∉ A:=λz=>by
   exact(DeepL.lists tot ys A il p z).ne (hp)
  refine k _ _ (p::A) (s1.trans (s2.trans (Same.new hp))) ⟨p,ys,A,rfl,ai,rfl,DeepL.frame (NL.of (Same.new hp)) tot ys A (λa _ o h=>Same.new hp _ _ h) il⟩ (List.nodup_cons.mpr ⟨hpA,nd⟩) λa ha=>?_;rcases mem_cons.mp ha with rfl|ha
  ·exact(s1.trans s2).free hp
  ·exact fr a ha
end
def tEv (K:Frag) (B:Bs) (O:Addr->Bool) (Y:Ev) (o:Option (Sl×Ev)):TE:=λσ H Q=>EnvOk K B O σ H Y/\∃s Y',o=some (s,Y')/\∀v H' O',Same (msk O H) (msk O' H')->EnvOk K B O' (σ++[some v]) H' (Y'++[some s])->Q v H'
def PEv (X:Cx) (e:Expr) (g:Ev->Option (Sl×Ev)):Prop:=∀B O Y,PU X e (tEv X.K B O Y (g Y))
section
variable {X:Cx} {e:Expr}
def dS (f:Vv->Option D):Ev->Option (Sl×Ev):=λY=>(f (vw Y)).bind λd=>some ((.deep,d),Y)
def uo (f:Vv->Option (List D)):Ev->Option (Sl×Ev):=λY=>(f (shv Y)).bind λds=>some ((.top,.lst ds),Y)
def Bv (f:Vv->Option D):Ev->Option (Sl×Ev):=λY=>(f (shv Y)).bind λd=>some ((.sh,d),Y)
def EU (f:Vv->Option D):Ev->Option (Sl×Ev):=λY=>(f (vw Y)).bind λd=>some ((.sh,d),io Y)
theorem Dr (h:PFr X e f):PEv X e (dS f):=λB O Y=>(h (vw Y)).imp λσ H Q ⟨E,s,Y',q,k⟩=>by
 obtain⟨d,q1,q2⟩:=bind_some q;cases q2;refine⟨E.view,d,q1,λv H' A s i n f=>?_⟩;have hl:=Deep.lists d v A i;have hO:∀b,(O b||decide (b∈A))=true->Hid (H' b):=λb hb=>by
  rcases(Bool.or_eq_true _ _).mp hb with hb|hb
  ·exact(E.lis b hb).same s
  ·exact hl b (of_decide_eq_true hb)
 have le:Same (msk O H) (msk (λb=>O b||decide (b∈A)) H'):=λb o q=>by
  obtain⟨q1,q2⟩:=aQ q;have hb:b ∉ A:=λz=>by rw[f b z]at q2;cases q2
  rw[aM (by simp[q1,hb])];exact s _ _ q2
 refine k v H' _ le (E.more s le (λb hb=>?_) (λb hb=>by simp[hb]) (λb hb=>by simp[hb]) hl n f ?_)
 ·rcases(Bool.or_eq_true _ _).mp hb with hb|hb
  ·exact .inl hb
  ·exact .inr (of_decide_eq_true hb)
 ·refine Deep.frame (λb o hb hn=>?_) d v A (λa _ o h=>h) i;cases z:(O b||decide (b∈A))with
  |false=>rw[aM z];exact hb
  |true=>
   have e:=hO b z;rw[hb]at e;exact(hn e).elim
theorem EV (h:PFu X e f):PEv X e (uo f):=λB O Y=>(h O (shv Y)).imp λσ H Q ⟨E,s,Y',q,k⟩=>by
 obtain⟨ds,q1,q2⟩:=bind_some q;cases q2;refine⟨E.viewS,ds,q1,λp xs H' s hp l=>?_⟩;have hO:=(E.grow s).fresh hp;have le:Same (msk O H') (msk (λb=>O b||decide (b=p)) (upd H' p (.lst xs))):=λb o q=>by
  obtain⟨q1,q2⟩:=aQ q;have hb:b≠p:=av q2 hp;rw[aM (by simp[q1,hb]),ah hb];exact q2
 refine k _ _ _ (s.msk.trans le) ((E.grow s).more (A:=[p]) (Same.new hp) le (λb hb=>?_) (λb hb=>by simp[hb]) (λb hb=>by simp[mem_singleton.mp hb]) (λa ha=>?_) (by simp) (λa ha=>by rw[mem_singleton.mp ha];exact hp) ⟨p,ds,xs,rfl,rfl,rfl,ai,IsL.mono le ds xs l⟩)
 ·rcases(Bool.or_eq_true _ _).mp hb with hb|hb
  ·exact .inl hb
  ·exact .inr (by simp[of_decide_eq_true hb])
 ·rw[mem_singleton.mp ha];exact .inl ⟨xs,ai⟩
theorem EnvOk.moreSh {K} (E:EnvOk K B O σ H Y) (h:Is K (msk O H) d v):EnvOk K B O (σ++[some v]) H (Y++[some (.sh,d)]):=
 E.more (c:=.sh) (A:=[]) (O':=O) (Same.refl _) (Same.refl _) (λ_ h=>.inl h) (λ_ h=>h) (λ_ h=>(nomatch h)) (λ_ h=>(nomatch h)) List.nodup_nil (λ_ h=>(nomatch h)) ⟨rfl,h⟩
theorem Iv (h:PPu X e f):PEv X e (Bv f):=λB O Y=>(h O (shv Y)).imp λσ H Q ⟨E,s,Y',q,k⟩=>by
 obtain⟨d,q1,q2⟩:=bind_some q;cases q2;exact⟨E.viewS,d,q1,λv H' s i=>k v H' O s.msk ((E.grow s).moreSh i)⟩
theorem Iw (h:PPu X e f):PEv X e (EU f):=λB O Y=>(h B.O (vw Y)).imp λσ H Q ⟨E,s,Y',q,k⟩=>by
 obtain⟨d,q1,q2⟩:=bind_some q;cases q2;obtain⟨E',le⟩:=E.frozen;exact⟨E.viewF,d,q1,λv H' s i=>k v H' B.O (le.trans s.msk) ((E'.grow s).moreSh i)⟩
theorem uq (h1:PEv X e f) (h2:PEv X e g):PEv X e (orO f g):=λB O Y=>(h1 B O Y).by2 (h2 B O Y) λσ H Q ⟨E,s,Y',q,k⟩=>by
 rcases or_some q with q|q;all_goals grind
end
inductive Out where
 |nx (Y:Ev)
 |rt (s:Sl)
 |bk (Y:Ev)
 |ct (Y:Ev)
def RetOk (K:Frag) (B:Bs) (H':Hp) (s:Sl) (v:V):Prop:=∃ (O':Addr->Bool) (A:List Addr),Same B.H H'/\(∀b,B.O b=true->O' b=true)/\(∀b,O' b=true->Hid (H' b))/\A.Nodup/\(∀a∈A,O' a=true/\B.H a=none)/\OwnC K O' H' s.1 s.2 v A
noncomputable def post (K:Frag) (B:Bs) (O:Addr->Bool) (H:Hp) (En:Ends):Out->Prop
 |.nx Y=>∀σ' H' O',Same (msk O H) (msk O' H')->EnvOk K B O' σ' H' Y->En.nx σ' H'
 |.bk Y=>∀σ' H' O',Same (msk O H) (msk O' H')->EnvOk K B O' σ' H' Y->En.bk σ' H'
 |.ct Y=>∀σ' H' O',Same (msk O H) (msk O' H')->EnvOk K B O' σ' H' Y->En.ct σ' H'
 |.rt s=>∀v H',RetOk K B H' s v->En.rt v H'
theorem post.mono {K} (s:Same (msk O H) (msk O1 H1)):∀ {o:Out},post K B O H En o->post K B O1 H1 En o
 |.nx _,h=>λσ' H' O' s' E=>h σ' H' O' (s.trans s') E
 |.bk _,h=>λσ' H' O' s' E=>h σ' H' O' (s.trans s') E
 |.ct _,h=>λσ' H' O' s' E=>h σ' H' O' (s.trans s') E
 |.rt _,h=>h
def tS (K:Frag) (B:Bs) (O:Addr->Bool) (Y:Ev) (o:Option Out):TS:=λEn σ H=>EnvOk K B O σ H Y/\∃out,o=some out/\post K B O H En out
def PR (X:Cx) (st:Stmt) (F:Ev->Option Out):Prop:=∀B O Y,PS X st (tS X.K B O Y (F Y))
def PRs (X:Cx) (st:List Stmt) (F:Ev->Option Out):Prop:=∀B O Y,PSs X st (tS X.K B O Y (F Y))
section
variable {X:Cx} {st:Stmt} {rest:List Stmt} {e tg iter:Expr} {pos:Pos}
theorem sw:PRs X [] (λY=>some (.nx Y)):=λB O Y=>pss_nil.imp λEn σ H ⟨E,o,q,k⟩=>by
 cases q;exact k σ H O (Same.refl _) E
def ae (F G:Ev->Option Out):Ev->Option Out:=λY=>(F Y).bind λo=>match o with|.nx Y'=>G Y'|o=>some o
theorem oV (h1:PR X st F) (h2:PRs X rest G):PRs X (st::rest) (ae F G):=λB O Y=>
 (kN (h1 B O Y) (PSs.ex λz:(Addr->Bool)×Ev=>h2 B z.1 z.2)).imp λEn σ H ⟨E,o,q,k⟩=>by
 obtain⟨o1,q1,q2⟩:=bind_some q;refine⟨E,o1,q1,?_⟩;cases o1 with
 |nx Y'=>exactλσ' H' O' s' E'=>⟨⟨O',Y'⟩,E',o,q2,k.mono s'⟩
 |rt d=>cases q2;exact k
 |bk Y'=>cases q2;exact k
 |ct Y'=>cases q2;exact k
theorem xx:PRs X rest (λ_=>none):=λB O Y=>pss_never.imp λEn σ H ⟨E,o,q,k⟩=>by cases q
theorem xy:PR X st (λ_=>none):=λB O Y=>ps_never.imp λEn σ H ⟨E,o,q,k⟩=>by cases q
def fQ (g:Ev->Option (Sl×Ev)):Ev->Option Out:=λY=>(g Y).bind λz=>some (.rt z.1)
theorem EnvOk.ret {K} (E:EnvOk K B O σ H Y) {i:Nat} (h:Y[i]?=some (some s)) (hv:σ[i]?=some (some v)):RetOk K B H s v:=by
 obtain⟨F,h1,h2,h3,h4⟩:=E.fp;obtain⟨v',e,o⟩:=h1 i s h;rw[hv]at e;cases e;exact⟨O,F i,E.same,E.sub,E.lis,h2 i,h4 i,o⟩
theorem xz (h:PEv X e g):PR X (.Return (some e) pos) (fQ g):=λB O Y=>(rS (h B O Y).1).imp λEn σ H ⟨E,o,q,k⟩=>by
 obtain⟨⟨s,Y'⟩,q1,q2⟩:=bind_some q;cases q2;refine⟨E,s,Y',q1,λv H' O' s' E'=>k v H' ?_⟩;have len:σ.length=Y'.length:=by have:=E'.len;simp at this;exact this
 exact E'.ret (i:=Y'.length) (getElem?_last _ _) (by rw[<-len];exact getElem?_last _ _)
theorem Bw:PR X (.Return none pos) (λ_=>some (.rt (.deep,.non))):=λB O Y=>ps_retN.imp λEn σ H ⟨E,o,q,k⟩=>by
 cases q;exact k .non H ⟨O,[],E.same,E.sub,E.lis,List.nodup_nil,λ_ h=>(nomatch h),rfl,rfl⟩
def gI (Y:Ev) (i:Nat):Option Sl:=match Y[i]? with
 |some (some s)=>some s
 |_=>none
theorem eO (h:gI Y i=some s):Y[i]?=some (some s):=by
 unfold gI at h;grind
theorem sy (i:Nat) (hN:X.N[i]?=some x) (hv:Vis X.env.scope x) (hd:(x==("__debug__":Str))=false) (hcd:(x==("__classdict__":Str))=false):PR X (.Return (some (.Name x px)) pos) (λY=>(gI Y i).bind λs=>some (.rt s)):=λB O Y=>(rS (bO hN hv hd hcd)).imp λEn σ H ⟨E,o,q,k⟩=>by
 obtain⟨s,q1,q2⟩:=bind_some q;cases q2;obtain⟨F,h1,h2,h3,h4⟩:=E.fp;obtain⟨v,e,o⟩:=h1 i s (eO q1);exact⟨v,e,k v H (E.ret (eO q1) e)⟩
def ak (i:Nat) (g:Ev->Option (Sl×Ev)):Ev->Option Out:=λY=>(g Y).bind λz=>some (.nx (z.2.set i (some z.1)))
theorem ur {K} (h:tS K B O Y (ak i g Y) En σ H):wD (tEv K B O Y (g Y)) (p9 i) En σ H:=by
 obtain⟨E,o,q,k⟩:=h;obtain⟨⟨s,Y'⟩,q1,q2⟩:=bind_some q;cases q2;exact⟨E,s,Y',q1,λv H' O' s' E'=>k _ H' O' s' (E'.put i)⟩
theorem xA (hN:X.N.Nodup) (hi:X.N[i]?=some x) (hx:Loc X.env.scope x) (h:PEv X e g) (hf:X.fn x=true\/X.env.scope.names.lookup x=some .local) (hs:swapsWith e (some (.Name x pos')) pos.line X.env=pure false\/(swapsWith e (some (.Name x pos')) pos.line X.env=pure true/\X.env.scope.names.lookup x=some .local)):PR X (.Assign [.Name x pos'] e pos) (ak i g):=λB O Y=>by
 rcases hs with hs|⟨hs,hl⟩
 ·exact(wE hN hi hx (h B O Y).1 hs hf).imp λEn σ H h=>ur h
 ·exact((h B O Y).2 i x pos' pos hN hi hl hs).imp λEn σ H h=>ur h
def lC (f:Vv->Option D):Ev->Option Out:=λY=>(f (vw Y)).bind λ_=>some (.nx Y)
theorem Bx (h:PP X e f) (hs:swapsWith e none pos.line X.env=pure false):PR X (.Expr e pos) (lC f):=λB O Y=>(dF (h noO (vw Y)) hs).imp λEn σ H ⟨E,o,q,k⟩=>by
 obtain⟨d,q1,q2⟩:=bind_some q;cases q2;exact⟨E.view,d,q1,λv H' s' iv=>k σ H' O s'.msk (E.grow s')⟩
def ifS (fc:Vv->Option Bool) (F G:Ev->Option Out):Ev->Option Out:=λY=>(fc (vw Y)).bind λc=>if c=true then F Y else G Y
theorem Ix (hc:PQ X c fc) (ha:PRs X a F) (hb:PRs X b G):PR X (.If c a b pos) (ifS fc F G):=λB O Y=>(wA (hc noO (vw Y)) (ha B O Y) (hb B O Y)).imp λEn σ H ⟨E,o,q,k⟩=>by
 obtain⟨c,q1,q2⟩:=bind_some q;refine⟨E.view,c,q1,λH' s'=>?_⟩;cases c with
 |true=>rw[if_pos rfl]at q2;exact A4 ⟨E.grow s',o,q2,k.mono s'.msk⟩
 |false=>rw[if_neg Bool.false_ne_true]at q2;exact A3 ⟨E.grow s',o,q2,k.mono s'.msk⟩
end
def tGE (K:Frag) (B:Bs) (O:Addr->Bool) (Y:Ev) (d:D) (o:Option Ev):TG:=λv σ H Q=>EnvOk K B O σ H Y/\Is K (msk O H) d v/\∃Y',o=some Y'/\∀σ',EnvOk K B O σ' H Y'->Q σ' H
def PGE (X:Cx) (tg:Expr) (g:D->Ev->Option Ev):Prop:=∀B O Y d,PG X tg (tGE X.K B O Y d (g d Y))
def K5 (K:Frag) (B:Bs) (O:Addr->Bool) (Y:Ev) (ds:List D) (o:Option Ev):TGs:=λvs σ H Q=>EnvOk K B O σ H Y/\IsL K (msk O H) ds vs/\∃Y',o=some Y'/\∀σ',EnvOk K B O σ' H Y'->Q σ' H
def vK (X:Cx) (ts:List Expr) (g:List D->Ev->Option Ev):Prop:=∀B O Y ds,PGs X ts (K5 X.K B O Y ds (g ds Y))
def eNm (i:Nat):D->Ev->Option Ev:=λd Y=>some (Y.set i (some (.sh,d)))
def xB:List D->Ev->Option Ev:=λds Y=>match ds with|[]=>some Y|_=>none
def nX (g:D->Ev->Option Ev) (gs:List D->Ev->Option Ev):List D->Ev->Option Ev:=λds Y=>match ds with|d::r=>(g d Y).bind λY1=>gs r Y1|_=>none
def eTp (n:Nat) (gs:List D->Ev->Option Ev):D->Ev->Option Ev:=λd Y=>match d with|.tup ds=>if ds.length=n then gs ds Y else none|_=>none
section
variable {X:Cx} {e tg iter:Expr} {pos:Pos}
theorem By (hN:X.N.Nodup) (hi:X.N[i]?=some x) (hx:Loc X.env.scope x) (hf:X.fn x=true\/X.env.scope.names.lookup x=some .local):PGE X (.Name x pos) (eNm i):=
 λB O Y d=>(tX hN hi hx hf).imp λv σ H Q ⟨E,iv,Y',e,k⟩=>by
 cases e
 exact k _ (E.setSh iv)
theorem Bz:vK X [] xB:=λB O Y ds=>pgs_nil.imp λvs σ H Q ⟨E,il,Y',e,k⟩=>by
 cases ds with
 |nil=>cases e;exact⟨il,k σ E⟩
 |cons _ _=>cases e
theorem gse_cons (h1:PGE X e g) (h2:vK X ts gs) (hs:(assignEach (e::ts) X.env).map (·.2)=assign e X.env::(assignEach ts X.env).map (·.2)):vK X (e::ts) (nX g gs):=λB O Y ds=>by
 cases ds with
 |nil=>exactλpins s σ H vs us Q I r ⟨_,_,Y',e,_⟩=>by cases e
 |cons d r=>
  refine(qg (h1 B O Y d) (PGs.ex λz:Ev=>h2 B O z r) hs).imp λvs σ H Q ⟨E,⟨x,xr,z,ix,il⟩,Y',e,k⟩=>?_;obtain⟨Y1,e1,e2⟩:=bind_some (show(g d Y).bind _=some Y' from e);exact⟨x,xr,z,E,ix,Y1,e1,λσ1 E1=>⟨Y1,E1,il,Y',e2,λσ2 E2=>k σ2 E2⟩⟩
theorem EW (hc:X.calm=true) (h:vK X ts gs) (hn:(assignEach ts X.env).length=n) (hst:(assignEach ts X.env).findIdx? (·.1)=none):PGE X (.Tuple ts k pos) (eTp n gs):=λB O Y d=>by
 refine(wC hc (PGs.ex λz:List D=>h B O Y z) hn hst).imp λv σ H Q ⟨E,iv,Y',e,k⟩=>?_;cases d with
 |tup ds=>
  obtain⟨a,xs,rfl,t,il⟩:=iv;have e':(if ds.length=n then gs ds Y else none)=some Y':=e;split at e'
  ·exact⟨a,xs,rfl,msk_le.seqT t,by rw[<-il.len];assumption,ds,E,il,Y',e',k⟩
  ·cases e'
 |_=>cases e
def iO (step:D->Ev->Option Out):List D->Ev->Option Out
 |[],Y=>some (.nx Y)
 |d::ds,Y=>(step d Y).bind λo=>match o with
  |.nx Y'=>iO step ds Y'
  |.ct Y'=>iO step ds Y'
  |.bk Y'=>some (.nx Y')
  |.rt v=>some (.rt v)
def eP (g:D->Ev->Option Ev) (F:Ev->Option Out):D->Ev->Option Out:=λd Y=>(g d Y).bind F
def vL (fi:Vv->Option (List D)) (g:D->Ev->Option Ev) (F:Ev->Option Out):Ev->Option Out:=λY=>(fi (shv Y)).bind λds=>iO (eP g F) ds Y
def EY (fi:Vv->Option (List D)) (g:D->Ev->Option Ev) (F:Ev->Option Out):Ev->Option Out:=λY=>(fi (vw Y)).bind λds=>iO (eP g F) ds (io Y)
theorem oW {K} (E:EnvOk K B O σ H Y) (V:VE K O σ H Yv) (q:(o.bind λds=>iO (eP g F) ds Y)=some out) (k:post K B O H En out):
  D9 (tJ K O Yv o) (λv σ H Q=>∃z:(Addr->Bool)×Ev×D,tGE K B z.1 z.2.1 z.2.2 (g z.2.2 z.2.1) v σ H Q) (λEn σ H=>∃z:(Addr->Bool)×Ev,tS K B z.1 z.2 (F z.2) En σ H) En σ H:=by
 obtain⟨ds,q1,q⟩:=bind_some q
 refine⟨V,ds,q1,λJ H1 s1 it=>⟨λi m σ' H'=>i<=ds.length/\m=ds.length-i/\∃O' Y',Same (msk O H1) (msk O' H')/\EnvOk K B O' σ' H' Y'/\iO (eP g F) (ds.drop i) Y'=some out,
  ⟨ds.length,Nat.zero_le _,by simp,O,Y,Same.refl _,E.grow s1,by simpa using q⟩,?_⟩⟩
 rintro i m σ2 H2 ⟨hi,rfl,O2,Y2,s2,E2,e2⟩
 have hit:=it i H2 O2 s2 E2.dom
 by_cases hlt:i<ds.length
 ·refine .inr ?_;have hd:ds[i]?=some ds[i]:=getElem?_eq_getElem hlt;obtain⟨go,yl⟩:=hit.1 _ hd;refine⟨go,λσ' H'=>i+1<=ds.length/\∃O' Y',Same (msk O H1) (msk O' H')/\EnvOk K B O' σ' H' Y'/\iO (eP g F) (ds.drop (i+1)) Y'=some out,λσ' H' ⟨a,b⟩=>⟨ds.length-(i+1),by omega,a,rfl,b⟩,λx H3 hy=>?_⟩;obtain⟨s3,ix⟩:=yl x H3 hy;rw[List.drop_eq_getElem_cons hlt]at e2;obtain⟨o1,e3,e4⟩:=bind_some (show((g ds[i] Y2).bind F).bind _=some out from e2);obtain⟨Y3,g3,f3⟩:=bind_some e3;refine⟨⟨O2,Y2,ds[i]⟩,E2.grow s3,ix,Y3,g3,λσ4 E4=>⟨⟨O2,Y3⟩,E4,o1,f3,?_⟩⟩;have s4:Same (msk O H1) (msk O2 H3):=s2.trans s3.msk;cases o1 with
  |nx Y5=>exactλσ5 H5 O5 s5 E5=>⟨hlt,O5,Y5,s4.trans s5,E5,e4⟩
  |ct Y5=>exactλσ5 H5 O5 s5 E5=>⟨hlt,O5,Y5,s4.trans s5,E5,e4⟩
  |bk Y5=>
   cases e4;exactλσ5 H5 O5 s5 E5=>k σ5 H5 O5 (s1.msk.trans (s4.trans s5)) E5
  |rt d=>
   cases e4;exact k
 ·have hie:i=ds.length:=by omega
  subst hie;rw[List.drop_of_length_le (le_refl _)]at e2;cases e2;exact .inl ⟨hit.2 (le_refl _),k σ2 H2 O2 (s1.msk.trans s2) E2⟩
theorem EZ (hp:PassesOwn (model X.prog X.w) X.A X.env X.xe) (hc:X.calm=true) (hi:PJ X tg iter fi) (hg:PGE X tg g) (hb:PRs X body F) (hs:∀x,foldedSetIterable iter X.env x=pure x):PR X (.For tg iter body [] pos) (vL fi g F):=λB O Y=>
 (kP hp hc (hi O (shv Y)) (PG.ex λz:(Addr->Bool)×Ev×D=>hg B z.1 z.2.1 z.2.2) (PSs.ex λz:(Addr->Bool)×Ev=>hb B z.1 z.2) hs).imp λEn σ H ⟨E,out,q,k⟩=>oW E E.viewS q k
theorem BA (hp:PassesOwn (model X.prog X.w) X.A X.env X.xe) (hc:X.calm=true) (hi:PJ X tg iter fi) (hg:PGE X tg g) (hb:PRs X body F) (hs:∀x,foldedSetIterable iter X.env x=pure x):PR X (.For tg iter body [] pos) (EY fi g F):=λB O Y=>
 (kP hp hc (hi B.O (vw Y)) (PG.ex λz:(Addr->Bool)×Ev×D=>hg B z.1 z.2.1 z.2.2) (PSs.ex λz:(Addr->Bool)×Ev=>hb B z.1 z.2) hs).imp λEn σ H ⟨E,out,q,k⟩=>oW E.frozen.1 E.viewF q (k.mono E.frozen.2)
theorem Ds {st} (h1:PR X st F) (h2:PR X st G):PR X st (orO F G):=λB O Y=>(h1 B O Y).by2 (h2 B O Y) λEn σ H ⟨E,out,q,k⟩=>by
 rcases or_some q with q|q;all_goals grind
end
section
variable {K:Frag} {B:Bs} {O:Addr->Bool} {σ:St} {H:Hp} {Y:Ev}
theorem EnvOk.ownAt (E:EnvOk K B O σ H Y) {i:Nat} (h:Y[i]?=some (some (c,.lst ds))) (hc:c≠.sh):
  ∃a xs,σ[i]?=some (some (.ref a))/\H a=some (.lst xs)/\ds.length=xs.length/\O a=true/\B.H a=none:=by
 obtain⟨F,h1,h2,h3,h4⟩:=E.fp
 obtain⟨v,e,o⟩:=h1 i _ h
 cases c with
 |sh=>exact absurd rfl hc
 |top=>
  obtain⟨a,ds',xs,z1,z2,z3,z4,l⟩:=o;cases z1;refine⟨a,xs,by rw[e,z2],z4,l.len,?_⟩;exact h4 i a (by rw[z3];exact mem_cons_self)
 |deep=>
  obtain⟨a,xs,A',z1,z2,z3,l⟩:=o;refine⟨a,xs,by rw[e,z1],z2,DeepL.len l,?_⟩;exact h4 i a (by rw[z3];exact mem_cons_self)
def lsW (f:{α:Type}->List α->α->List α):Prop:=∀ {K:Frag} {M H:Hp} {ds:List D} {xs:List V} {A A1:List Addr} {d:D} {v:V},DeepL K M H ds xs A->Deep K M H d v A1->(A++A1).Nodup->
 ∃A',DeepL K M H (f ds d) (f xs v) A'/\A'.Nodup/\∀b∈A',b∈A\/b∈A1
def lsI (f:{α:Type}->List α->α->List α):Prop:=∀ {K:Frag} {M:Hp} {ds:List D} {xs:List V} {d:D} {v:V},IsL K M ds xs->Is K M d v->IsL K M (f ds d) (f xs v)
def newCat (c:Cat) (s:Sl):Cat:=if c=.deep/\s.1=.deep then .deep else .top
theorem EnvOk.change (E:EnvOk K B O (σ++[some v]) H (Y++[some s])) (f:{α:Type}->List α->α->List α) (hw:lsW f) (hi:lsI f) {i:Nat} (h:Y[i]?=some (some (c,.lst ds))) (hc:c≠.sh):
  ∃a xs,σ[i]?=some (some (.ref a))/\H a=some (.lst xs)/\ds.length=xs.length/\∃O',EnvOk K B O' σ (upd H a (.lst (f xs v))) (Y.set i (some (newCat c s,.lst (f ds s.2))))/\Same (msk O H) (msk O' (upd H a (.lst (f xs v)))):=by
 obtain⟨F,h1,h2,h3,h4⟩:=E.fp
 have len:σ.length=Y.length:=by have:=E.len;simp at this;exact this
 have hil:i<Y.length:=(List.getElem?_eq_some_iff.mp h).1
 have hin:i≠Y.length:=by omega
 obtain⟨v',e1,o1⟩:=h1 Y.length s (getElem?_last _ _)
 rw[<-len,getElem?_last]at e1
 cases e1
 obtain⟨v0,e0,o0⟩:=h1 i _ (by rw[getElem?_append_left hil];exact h)
 have e0':σ[i]?=some (some v0):=dR (by omega) e0
 -- the list's place
 have at_:∃a xs A',v0=.ref a/\H a=some (.lst xs)/\F i=a::A'/\ds.length=xs.length/\(c=.deep->DeepL K (msk O H) H ds xs A')/\(∀O',Same (msk O H) (msk O' H)->(∀b∈A',O' b=false)->IsL K (msk O' H) ds xs):=by
  cases c with
  |sh=>exact absurd rfl hc
  |top=>
   obtain⟨a,ds',xs,z1,z2,z3,z4,l⟩:=o0;cases z1;exact⟨a,xs,[],z2,z4,z3,l.len,(λz=>by cases z),λO' le _=>IsL.mono le _ _ l⟩
  |deep=>
   obtain⟨a,xs,A',z1,z2,z3,l⟩:=o0;exact⟨a,xs,A',z1,z2,z3,DeepL.len l,λ_=>l,λO' le hA=>DeepL.is (NL.of le) ds xs A' (λb hb o q=>by rw[aM (hA b hb)];exact q) l⟩
 obtain⟨a,xs,A',rfl,ha,hF,hl,hdeep,htop⟩:=at_
 have haF:a∈F i:=by rw[hF];exact mem_cons_self
 obtain⟨haO,haB⟩:=h4 i a haF
 have nd:=h2 i
 rw[hF]at nd
 have haA':a ∉ A':=(List.nodup_cons.mp nd).1
 have hA'F:∀b∈A',b∈F i:=λb hb=>by rw[hF];exact mem_cons_of_mem _ hb
 have han:a ∉ F Y.length:=λz=>hin (h3 _ _ a haF z)
 refine⟨a,xs,e0',ha,hl,?_⟩
 -- the rest of the frame
 have oth:∀ {O':Addr->Bool} {H':Hp},Same (msk O H) (msk O' H')->(∀b,b≠a->H' b=H b)->∀j x,j≠i->Y[j]?=some (some x)->∃w,σ[j]?=some (some w)/\OwnC K O' H' x.1 x.2 w (F j):=λ{O' H'} le hh j x hj hx=>by
  have hjl:=(List.getElem?_eq_some_iff.mp hx).1;obtain⟨w,e2,o2⟩:=h1 j x (by rw[getElem?_append_left hjl];exact hx);refine⟨w,dR (by omega) e2,o2.frame le λb hb o q=>?_⟩;have hba:b≠a:=λz=>hj (h3 j i a (z▸hb) haF);rw[hh b hba];exact q
 by_cases hd:c=.deep/\s.1=.deep
 ·obtain⟨rfl,hs⟩:=hd;obtain⟨sc,sd⟩:=s;cases(show sc=.deep from hs);have o1':Deep K (msk O H) H sd v (F Y.length):=o1;have ndT:(A'++F Y.length).Nodup:=List.nodup_append.mpr ⟨(List.nodup_cons.mp nd).2,h2 _,λx hx y hy z=>by
   subst z;exact hin (h3 i Y.length x (hA'F x hx) hy)⟩
  obtain⟨A2,l2,n2,sub2⟩:=hw (hdeep rfl) o1' ndT;have haA2:a ∉ A2:=λz=>by
   rcases sub2 a z with z|z
   ·exact haA' z
   ·exact han z
  have me:msk O (upd H a (.lst (f xs v)))=msk O H:=iH haO;have le:Same (msk O H) (msk O (upd H a (.lst (f xs v)))):=by rw[me];exact Same.refl _
  have nc:newCat Cat.deep (Cat.deep,sd)=.deep:=by unfold newCat;rw[if_pos ⟨rfl,rfl⟩]
  rw[nc];refine⟨O,⟨λb o z=>?_,E.bdom,E.sub,λb hb=>?_,by simpa using len,λj=>if j=i then a::A2 else if j=Y.length then[]else F j,λj x q=>?_,λj=>?_,λj k b hj hk=>?_,λj b hj=>?_⟩,le⟩
  ·rw[ah (av z haB)];exact E.same b o z
  ·by_cases hba:b=a
   ·subst hba;exact .inl ⟨_,ai⟩
   ·rw[ah hba];exact E.lis b hb
  ·rcases get_set_some q with⟨e,q'⟩|⟨e,q'⟩
   ·cases q';subst e;refine⟨.ref a,e0',?_⟩;simp only[if_true];refine⟨a,f xs v,A2,rfl,ai,rfl,DeepL.frame (NL.of le) _ _ A2 (λb hb o q=>?_) l2⟩;have hba:b≠a:=λz=>haA2 (by rw[<-z];exact hb);rw[ah hba];exact q
   ·have hj:j≠Y.length:=by have:=(List.getElem?_eq_some_iff.mp q').1;omega
    obtain⟨w,e2,o2⟩:=oth le (λb hb=>ah hb) j x e q';exact⟨w,e2,by simp only[if_neg e,if_neg hj];exact o2⟩
  ·dsimp only;split
   ·exact List.nodup_cons.mpr ⟨haA2,n2⟩
   ·split
    ·exact List.nodup_nil
    ·exact h2 _
  ·have key:∀j b,b∈(if j=i then a::A2 else if j=Y.length then[]else F j)->(j=i/\(b∈F i\/b∈F Y.length))\/(j≠i/\j≠Y.length/\b∈F j):=λj b hb=>by
    by_cases e:j=i
    ·rw[if_pos e]at hb;refine .inl ⟨e,?_⟩;rcases mem_cons.mp hb with rfl|hb
     ·exact .inl haF
     ·rcases sub2 b hb with z|z
      ·exact .inl (hA'F b z)
      ·exact .inr z
    ·rw[if_neg e]at hb;by_cases e2:j=Y.length
     ·rw[if_pos e2]at hb;cases hb
     ·rw[if_neg e2]at hb;exact .inr ⟨e,e2,hb⟩
   rcases key j b hj with⟨p1,p2⟩|⟨p1,p2,p3⟩<;>rcases key k b hk with⟨q1,q2⟩|⟨q1,q2,q3⟩
   ·omega
   ·rcases p2 with p2|p2
    ·exact absurd (h3 _ _ b p2 q3) (by omega)
    ·exact absurd (h3 _ _ b p2 q3) (by omega)
   ·rcases q2 with q2|q2
    ·exact absurd (h3 _ _ b p3 q2) (by omega)
    ·exact absurd (h3 _ _ b p3 q2) (by omega)
   ·exact h3 _ _ b p3 q3
  ·dsimp only at hj;split at hj
   ·rcases mem_cons.mp hj with rfl|hj
    ·exact⟨haO,haB⟩
    ·rcases sub2 b hj with z|z
     ·exact h4 i b (hA'F b z)
     ·exact h4 _ b z
   ·split at hj
    ·cases hj
    ·exact h4 _ b hj
 ·have nc:newCat c s=.top:=by unfold newCat;rw[if_neg hd]
  rw[nc];let O':Addr->Bool:=λb=>O b&&!decide (b∈A')&&!decide (b∈F Y.length);have hO'a:O' a=true:=by simp[O',haO,haA',han]
  have hsub:∀b,O' b=true->O b=true:=λb hb=>by simp[O']at hb;exact hb.1.1
  have hno:∀b∈A',O' b=false:=λb hb=>by simp[O',hb]
  have hno2:∀b∈F Y.length,O' b=false:=λb hb=>by simp[O',hb]
  have le0:Same (msk O H) (msk O' H):=λb o q=>by
   obtain⟨q1,q2⟩:=aQ q;rw[aM (by simp[O',q1])];exact q2
  have me:msk O' (upd H a (.lst (f xs v)))=msk O' H:=iH hO'a;have le:Same (msk O H) (msk O' (upd H a (.lst (f xs v)))):=by rw[me];exact le0
  have l3:IsL K (msk O' (upd H a (.lst (f xs v)))) (f ds s.2) (f xs v):=by
   rw[me];exact hi (htop O' le0 hno) (o1.is le0 hno2)
  refine⟨O',⟨λb o z=>?_,E.bdom,λb hb=>?_,λb hb=>?_,by simpa using len,λj=>if j=i then[a]else if j=Y.length then[]else F j,λj x q=>?_,λj=>?_,λj k b hj hk=>?_,λj b hj=>?_⟩,le⟩
  ·rw[ah (av z haB)];exact E.same b o z
  ·have h5:b ∉ A':=λz=>E.bdom b hb (h4 i b (hA'F b z)).2;have h6:b ∉ F Y.length:=λz=>E.bdom b hb (h4 _ b z).2;simp[O',E.sub b hb,h5,h6]
  ·by_cases hba:b=a
   ·subst hba;exact .inl ⟨_,ai⟩
   ·rw[ah hba];exact E.lis b (hsub b hb)
  ·rcases get_set_some q with⟨e,q'⟩|⟨e,q'⟩
   ·cases q';subst e;refine⟨.ref a,e0',?_⟩;simp only[if_true];exact⟨a,f ds s.2,f xs v,rfl,rfl,rfl,ai,l3⟩
   ·have hj:j≠Y.length:=by have:=(List.getElem?_eq_some_iff.mp q').1;omega
    obtain⟨w,e2,o2⟩:=oth le (λb hb=>ah hb) j x e q';exact⟨w,e2,by simp only[if_neg e,if_neg hj];exact o2⟩
  ·dsimp only;split
   ·simp
   ·split
    ·exact List.nodup_nil
    ·exact h2 _
  ·dsimp only at hj hk;split at hj
   ·split at hk
    ·omega
    ·split at hk
     ·cases hk
     ·rw[mem_singleton.mp hj]at hk;exact absurd (h3 _ _ a haF hk) (by omega)
   ·split at hj
    ·cases hj
    ·split at hk
     ·rw[mem_singleton.mp hk]at hj;exact absurd (h3 _ _ a hj haF) (by omega)
     ·split at hk
      ·cases hk
      ·exact h3 _ _ b hj hk
  ·dsimp only at hj;split at hj
   ·rw[mem_singleton.mp hj];exact⟨hO'a,haB⟩
   ·rename_i hji;split at hj
    ·cases hj
    ·rename_i hjn;refine⟨?_,(h4 _ b hj).2⟩;have h5:b ∉ A':=λz=>hji (h3 _ _ b hj (hA'F b z));have h6:b ∉ F Y.length:=λz=>hjn (h3 _ _ b hj z);simp[O',(h4 _ b hj).1,h5,h6]
end
section
variable {X:Cx} {e tg:Expr} {pos:Pos}
end
def fK {α:Type} (l:List α) (x:α):List α:=l++[x]
theorem sA:lsW fK:=λh q nd=>⟨_,DeepL.snoc q h,nd,λb hb=>mem_append.mp hb⟩
theorem sD:lsI fK:=λh q=>h.app ⟨_,[],rfl,q,rfl⟩
section
variable {X:Cx} {e:Expr} {pos:Pos}
def fR (Y:Ev) (i:Nat):Option (Cat×List D):=(gI Y i).bind λs=>match s with
 |(.sh,_)=>none
 |(c,.lst ds)=>some (c,ds)
 |_=>none
theorem cr (h:fR Y i=some (c,ds)):Y[i]?=some (some (c,.lst ds))/\c≠.sh:=by
 obtain⟨⟨c',d⟩,e,q⟩:=bind_some h;have e':=eO e;grind
def oX (i:Nat) (g:Ev->Option (Sl×Ev)):Ev->Option Out:=λY=>(fR Y i).bind λ_=>(g Y).bind λz=>(fR z.2 i).bind λw=>if w.2.length+1<big then some (.nx (z.2.set i (some (newCat w.1 z.1,.lst (w.2++[z.1.2])))))else none
theorem vM (i:Nat) (h:PEv X e g) (hN:X.N[i]?=some x) (hv:Vis X.env.scope x) (hd:(x==("__debug__":Str))=false) (hcd:(x==("__classdict__":Str))=false) (hst:starEach [e] X.env=(false,eval e X.env)::starEach [] X.env) (hline:(apos.endLine==cpos.line)=true):PR X (.Expr (.Call (.Attribute (.Name x px) "append" apos) [e] [] cpos) pos) (oX i g):=λB O Y=>
 (dF (iF PySem.F.plainAttrs_list PySem.F.slot_list_append PySem.F.type_list_append je (bO hN hv hd hcd) (bi (h B O Y).1 pa_nil hst) rfl (by rw[hst];rfl) hline hst rfl)).imp λEn σ H ⟨E,o,q,k⟩=>by
 obtain⟨⟨c0,ds0⟩,q1,q⟩:=bind_some q;obtain⟨⟨s,Y'⟩,q2,q⟩:=bind_some q;obtain⟨⟨c,ds⟩,q3,q⟩:=bind_some q;obtain⟨hz,q⟩:=aw q;subst q;obtain⟨h0,hc0⟩:=cr q1;obtain⟨h1,hc1⟩:=cr q3;obtain⟨a,xs0,e1,r3,_⟩:=E.ownAt h0 hc0;refine⟨.ref a,e1,.inl ⟨rfl,_,SqL.of r3⟩,E,s,Y',q2,λv H1 O1 s1 E1=>?_⟩;obtain⟨a',xs,e2,r4,hl,O2,E2,s2⟩:=E1.change fK sA sD h1 hc1;rw[e1]at e2;cases e2;exact⟨a,xs,v,rfl,rfl,r4,by rw[eB,<-hl];exact Nat.lt_of_succ_lt hz,k σ _ O2 (s1.trans s2) E2⟩
end
def spC (K:Frag) (f:List D->Option Sl):Sp:=λvs H Q _=>∃O ds s,(∀b,O b=true->Hid (H b))/\IsL K (msk O H) ds vs/\f ds=some s/\∀v H',RetOk K ⟨H,O⟩ H' s v->Q v H'
def aq (n:Nat) (ds:List D):Ev:=ds.map (λd=>some (.sh,d))++List.replicate (n-ds.length) none
def Iy (o:Option Out):Option Sl:=o.bind λo=>match o with
 |.rt d=>some d
 |.nx _=>some (.deep,.non)
 |_=>none
def bj (n m:Nat) (F:Ev->Option Out) (ds:List D):Option Sl:=if ds.length=n then Iy (F (aq m ds))else none
theorem nY (h:bj n m F ds=some d):ds.length=n/\Iy (F (aq m ds))=some d:=by
 unfold bj at h;grind
section
variable {P:Program} {w:World} {K:Frag} {mg:Str->Option Value} {base:Heap}
theorem sE {i:Nat} (q:(aq n ds)[i]?=some (some s)):∃d,ds[i]?=some d/\s=(.sh,d):=by
 unfold aq at q;grind
theorem lE {O:Addr->Bool} {H:Hp} {N:List Str} {vs:List V} {ds:List D} (hd:∀b,O b=true->Hid (H b)) (il:IsL K (msk O H) ds vs):EnvOk K ⟨H,O⟩ O (fJ N vs) H (aq N.length ds) where
 same:=Same.refl _
 bdom:=λb h=>(hd b h).ne
 sub:=λ_ h=>h
 lis:=hd
 len:=by
  unfold fJ aq;rw[length_append,length_append,length_map,length_map,List.length_replicate,List.length_replicate,il.len]
 fp:=by
  refine⟨λ_=>[],λi s q=>?_,λ_=>List.nodup_nil,λ_ _ _ h=>(nomatch h),λ_ _ h=>(nomatch h)⟩;obtain⟨d,e,rfl⟩:=sE q;obtain⟨x,hx,ix⟩:=il.get e;refine⟨x,?_,rfl,ix⟩;have hi:i<vs.length:=(List.getElem?_eq_some_iff.mp hx).1;unfold fJ;rw[getElem?_append_left (by rw[length_map];exact hi),getElem?_map,hx];rfl
theorem E8 {st} (Fn:Fun K x qual st f fd) (S:FnScope N ps (aj st)) (hb:∀ (cdv:Value) (A:Around) (outer:List Env) (s:Shared) (H:Hp) (E:XK),Room k (A.deeper (envOfC qual (aj st) s.heap.objs.size f cdv))->PRs (ic CX0 P w K mg base N qual (aj st) f cdv A outer s H E).nox (aK st) F):
  FnOk P w K mg base CX0 (k+1) f fd ps (spC K (bj ps.length N.length F)):=by
 refine Fn.ok S (λvs H Q E ⟨O,ds,d,_,il,e,_⟩=>by rw[<-il.len];exact(nY e).1) (λcdv A outer s H vs Q E hr ⟨O,ds,d,hd,il,e,kk⟩=>?_)
 refine⟨_,hb cdv A outer s H E hr ⟨H,O⟩ O (aq N.length ds),lE hd il,?_⟩
 obtain⟨o,e1,e2⟩:=bind_some (nY e).2
 refine⟨o,e1,?_⟩
 cases o with
 |rt d'=>cases e2;exact kk
 |nx Y=>cases e2;exactλσ' H' O' s' E'=>kk .non H' ⟨O',[],E'.same,E'.sub,E'.lis,List.nodup_nil,λ_ h=>(nomatch h),rfl,rfl⟩
 |bk Y=>cases e2
 |ct Y=>cases e2
structure Df (P:Program) (w:World) (K:Frag) (mg:Str->Option Value) (base:Heap) (x:Str) (k:Nat) (f:List D->Option Sl):Prop where
 ex:∃ (a:Addr) (fd:FuncData) (ps:List Str),mg x=some (.ref a)/\PySem.W.keepIn K (.ref a)=true/\Binds K fd ps []/\FnOk P w K mg base CX0 k a fd ps (spC K f)
theorem RetOk.is (hd:∀b,O b=true->Hid (H b)) (r:RetOk K ⟨H,O⟩ H' s v):Same H H'/\Is K (msk O H') s.2 v:=by
 obtain⟨O',A,h1,h2,h3,h4,h5,h6⟩:=r;refine⟨h1,h6.is (λb o q=>?_) λa ha=>?_⟩
 ·obtain⟨q1,q2⟩:=aQ q;rw[aM ?_];exact q2;cases z:O b with
  |false=>rfl
  |true=>rw[h2 b z]at q1;cases q1
 ·cases z:O a with
  |false=>rfl
  |true=>exact absurd (h5 a ha).2 (hd a z).ne
end
section
variable {X:Cx} {x:Str} {p pos apos:Pos} {e o:Expr} {es:List Expr} {k:Nat} {f:List D->Option Sl} {fa:Vv->Option (List D)}
def gJ (o:Option Sl):Option D:=o.bind λs=>some s.2
def qz (o:Option Sl):Option D:=o.bind λs=>match s with
 |(.deep,d)=>some d
 |_=>none
theorem BB (F:Df X.prog X.w X.K X.mg X.base x k f) (hr:Room k X.A) (hg:Gl X x) (ha:PX X (e::es) fa) (hdb:(x==("__debug__":Str))=false) (he:starEach (e::es) X.env=(false,eval e X.env)::starEach es X.env) (hpl:(backTo pos (starEach es X.env)).any (·.1)=false):
  PP X (.Call (.Name x p) (e::es) [] pos) (λY=>(fa Y).bind λds=>gJ (f ds)):=λO Y=>by
 obtain⟨a,fd,ps,hm,hk,hb,G⟩:=F.ex
 refine(ub G hr hg hm hk hb .nil wS (ha O Y) hdb he hpl).imp λσ H Q ⟨E,d,q,kk⟩=>?_
 obtain⟨ds,q1,q2⟩:=bind_some q
 obtain⟨s,q3,q4⟩:=bind_some q2
 cases q4
 refine⟨E,ds,q1,λvs H1 s1 il=>?_⟩
 show spC X.K f (vs++[]) H1 Q E0
 rw[List.append_nil]
 refine⟨O,ds,s,(E.grow s1).lis,il,q3,λv H2 r=>?_⟩
 obtain⟨s2,iv⟩:=r.is (E.grow s1).lis
 exact kk v H2 (s1.trans s2) iv
theorem BC (F:Df X.prog X.w X.K X.mg X.base x k f) (hr:Room k X.A) (hg:Gl X x) (ha:PX X (e::es) fa) (hdb:(x==("__debug__":Str))=false) (he:starEach (e::es) X.env=(false,eval e X.env)::starEach es X.env) (hpl:(backTo pos (starEach es X.env)).any (·.1)=false):
  PFr X (.Call (.Name x p) (e::es) [] pos) (λY=>(fa Y).bind λds=>qz (f ds)):=λY=>by
 obtain⟨a,fd,ps,hm,hk,hb,G⟩:=F.ex
 refine PE.pu ((ub G hr hg hm hk hb .nil wS (ha noO Y) hdb he hpl).imp λσ H Q ⟨E,d,q,kk⟩=>?_) rfl
 obtain⟨ds,q1,q2⟩:=bind_some q
 obtain⟨⟨c,d'⟩,q3,q4⟩:=bind_some q2
 cases c with
 |sh=>cases q4
 |top=>cases q4
 |deep=>
  cases q4;refine⟨E,ds,q1,λvs H1 s1 il=>?_⟩;show spC X.K f (vs++[]) H1 Q E0;rw[List.append_nil];refine⟨noO,ds,_,(E.grow s1).lis,il,q3,λv H2 r=>?_⟩;obtain⟨O',A,h1,h2,h3,h4,h5,h6⟩:=r;exact kk v H2 A (s1.trans h1) (Deep.frame (NL.of msk_le) _ v A (λ_ _ _ h=>h) h6) h4 λa ha=>s1.free (h5 a ha).2
end
def oY:List Str->Str->Option Nat
 |[],_=>none
 |y::r,x=>if y=x then some 0 else(oY r x).map (·+1)
theorem eQ:∀ {l:List Str} {x:Str} {i:Nat},oY l x=some i->l[i]?=some x
 |[],_,_,h=>by cases h
 |y::r,x,i,h=>by
  unfold oY at h;split at h
  ·rename_i e;cases h;simp[e]
  ·cases e:oY r x with
   |none=>rw[e]at h;cases h
   |some j=>
    rw[e]at h;cases h;have:=eQ e;simpa using this
structure Glob where
 fn:Str->Option (Nat×(List D->Option Sl))
 cn:Str->Option D
 no:Str->Bool
 fl:Str->Str->Bool
structure SE where
 N:List Str
 nm:List (Str×NameKind)
 k:Nat
 G:Glob
structure GOk (P:Program) (w:World) (K:Frag) (mg:Str->Option Value) (base:Heap) (G:Glob):Prop where
 fn:∀x k f,G.fn x=some (k,f)->Df P w K mg base x k f
 cn:∀x d,G.cn x=some d->Cn K mg x d
 no:∀x,G.no x=true->mg x=none
 fl:∀C m Ca,G.fl C m=true->nsIn K mainGlobals C=some (some (.ref Ca))->Cls K Ca/\NoAttr K Ca m
structure SOk (X:Cx) (S:SE):Prop where
 g:GOk X.prog X.w X.K X.mg X.base S.G
 N:X.N=S.N
 nd:S.N.Nodup
 calm:X.calm=true
 room:Room S.k X.A
 loc:∀x,S.nm.lookup x=some .local->X.env.scope.names.lookup x=some .local
 cel:∀x,S.nm.lookup x=some .cell->X.env.scope.names.lookup x=some .cell
 fre:∀x,S.nm.lookup x=some .free->X.env.scope.names.lookup x=some .cell\/X.env.scope.names.lookup x=some .free
 glo:∀x,S.nm.lookup x=some .globalImplicit->X.env.kindOf x=some .globalImplicit
def eD (x:Str):Bool:=!(x==("__debug__":Str))&&!(x==("__classdict__":Str))&&!decide (x=("__name__":Str))
def ut:Option NameKind->Bool
 |some .local=>true
 |some .cell=>true
 |some .free=>true
 |_=>false
def slot (S:SE) (x:Str):Option Nat:=if eD x&&ut (S.nm.lookup x)then oY S.N x else none
def oZ (x:Str):Option String:=if x=("int":Str)then some "int"else if x=("bool":Str)then some "bool"else if x=("str":Str)then some "str"else if x=("list":Str)then some "list"else if x=("tuple":Str)then some "tuple"else if x=("dict":Str)then some "dict"else none
theorem sF (h:oZ x=some n):bootBuiltins x=some (.type n):=by
 unfold oZ at h;split at h
 ·rename_i e;cases h;subst e;decide+kernel
 ·split at h
  ·rename_i e;cases h;subst e;decide+kernel
  ·split at h
   ·rename_i e;cases h;subst e;decide+kernel
   ·split at h
    ·rename_i e;cases h;subst e;decide+kernel
    ·split at h
     ·rename_i e;cases h;subst e;decide+kernel
     ·split at h
      ·rename_i e;cases h;subst e;decide+kernel
      ·cases h
section
variable {X:Cx} {S:SE} {pos:Pos}
theorem bJ (h:eD x=true):(x==("__debug__":Str))=false/\(x==("__classdict__":Str))=false/\x≠("__name__":Str):=by grind [eD]
end
section
variable {X:Cx} {e o:Expr} {es:List Expr} {p pos apos:Pos}
def mY (fl:Str->Str->Bool) (m:Str):D->Option D
 |.obj C ns ds=>if fl C m then(ns.zip ds).lookup m else none
 |_=>none
theorem lF {K}:∀ {fs:List (Str×V)} {ds:List D},IsL K H ds (fs.map (·.2))->((fs.map (·.1)).zip ds).lookup f=some d->∃v,fs.lookup f=some v/\Is K H d v
 |[],ds,_,e=>by simp at e
 |(n,v)::fs,[],l,e=>by simp at e
 |(n,v)::fs,d'::ds,⟨x,r,z,h,l⟩,e=>by
  have z':v::fs.map (·.2)=x::r:=z;cases z';simp only[List.map_cons,List.zip_cons_cons,List.lookup_cons]at e⊢;cases hf:f==n with
  |true=>rw[hf]at e;cases e;exact⟨v,rfl,h⟩
  |false=>rw[hf]at e;exact lF l e
theorem E9 (ho:PP X o fo) (hfl:∀C Ca,fl C m=true->nsIn X.K mainGlobals C=some (some (.ref Ca))->Cls X.K Ca/\NoAttr X.K Ca m) (hbase:attributeBase o m X.env (eval o X.env)=eval o X.env):PP X (.Attribute o m pos) (λY=>(fo Y).bind (mY fl m)):=λO Y=>by
 refine(Eh (ho O Y) hbase).imp λσ H Q ⟨E,d,q,k⟩=>?_;obtain⟨dv,q1,q⟩:=bind_some q;refine⟨E,dv,q1,λv H1 s1 iv=>?_⟩;cases dv with
 |obj C ns ds=>
  have q':(if fl C m=true then(ns.zip ds).lookup m else none)=some d:=q;split at q'
  ·rename_i hC;obtain⟨a,Ca,dx,fs,rfl,h0,h1,h2,h3⟩:=iv;subst h2;obtain⟨v',e1,e2⟩:=lF h3 q';obtain⟨c,na⟩:=hfl C Ca hC h0;exact⟨a,Ca,dx,fs,v',rfl,msk_le _ _ h1,c,na,e1,k v' H1 s1 e2⟩
  ·cases q'
 |_=>cases q
structure Mf (P:Program) (w:World) (K:Frag) (mg:Str->Option Value) (base:Heap) (C m:Str) (k:Nat) (f:List D->Option Sl):Prop where
 ex:∃ (Ca fa:Addr) (fd:FuncData) (ps:List Str),nsIn K mainGlobals C=some (some (.ref Ca))/\Cls K Ca/\Meth K Ca m fa/\Binds K fd ps []/\FnOk P w K mg base CX0 k fa fd ps (spC K f)
abbrev MT:=Str->Option (Nat×(List D->Option Sl))
def Dt (mt:MT) (k0:Nat) (m:Str) (d:D) (as:List D):Option Sl:=match d with
 |.obj C ns _=>(mt C).bind λz=>if z.1<=k0/\m ∉ ns then z.2 (d::as)else none
 |_=>none
structure Pick (X:Cx) (mt:MT) (k0:Nat) (m:Str) where
 C:Str
 Ca:Addr
 fa:Addr
 fd:FuncData
 ps:List Str
 k:Nat
 f:List D->Option Sl
 h:mt C=some (k,f)/\k<=k0/\nsIn X.K mainGlobals C=some (some (.ref Ca))/\Cls X.K Ca/\Meth X.K Ca m fa/\Binds X.K fd ps []/\FnOk X.prog X.w X.K X.mg X.base CX0 k fa fd ps (spC X.K f)
def Iz (fo:Vv->Option D) (fa:Vv->Option (List D)) (mt:MT) (k0:Nat) (m:Str):Vv->Option Sl:=λY=>(fo Y).bind λd=>(fa Y).bind λas=>Dt mt k0 m d as
noncomputable def spI (K:Frag) (Ca:Addr) (g:List D->Option (List (Str×D))):Sp:=λvs H Q _=>∃x vs' dx O ds fd,vs=.ref x::vs'/\H x=some (.ins Ca dx [])/\(∀b,O b=true->Hid (H b))/\O x=true/\IsL K (msk O H) ds vs'/\g ds=some fd/\
 ∀H' fs,(∀b o,b≠x->H b=some o->H' b=some o)->H' x=some (.ins Ca dx fs)->fs.map (·.1)=fd.map (·.1)->IsL K (msk O H') (fd.map (·.2)) (fs.map (·.2))->Q .non H'
structure Mkf (P:Program) (w:World) (K:Frag) (mg:Str->Option Value) (base:Heap) (C:Str) (k:Nat) (g:List D->Option (List (Str×D))):Prop where
 ex:∃ (Ca fa:Addr) (fd:FuncData) (ps:List Str),mg C=some (.ref Ca)/\nsIn K mainGlobals C=some (some (.ref Ca))/\Mk K Ca fa/\Binds K fd ps []/\FnOk P w K mg base CX0 k fa fd ps (spI K Ca g)
def BD (C:Str) (o:Option (List (Str×D))):Option D:=o.bind λfd=>some (.obj C (fd.map (·.1)) (fd.map (·.2)))
theorem BE (F:Mkf X.prog X.w X.K X.mg X.base C k g) (hr:Room (k+1) X.A) (hg:Gl X C) (ha:PX X (e::es) fa) (hdb:(C==("__debug__":Str))=false) (he:starEach (e::es) X.env=(false,eval e X.env)::starEach es X.env) (hpl:(backTo pos (starEach es X.env)).any (·.1)=false):
  PP X (.Call (.Name C p) (e::es) [] pos) (λY=>(fa Y).bind λds=>BD C (g ds)):=λO Y=>by
 obtain⟨Ca,f,fd,ps,hm,hns,M,hb,G⟩:=F.ex
 refine(AS M G hr hg hm hb .nil wS (ha O Y) hdb he hpl).imp λσ H Q ⟨E,d,q,kk⟩=>?_
 obtain⟨ds,q1,q2⟩:=bind_some q
 obtain⟨fl,q3,q4⟩:=bind_some q2
 cases q4
 refine⟨E,ds,q1,λvs H1 s1 il x dx hx hdx hne=>?_⟩
 have E1:=E.grow s1
 have hOx:=E1.fresh hx
 have s2:Same H1 (upd (upd H1 dx (.own x)) x (.ins Ca dx [])):=λb o q=>by
  rw[ah (av q hx),ah (av q hdx)];exact q
 have le:Same (msk O H1) (msk (λb=>O b||decide (b=x)) (upd (upd H1 dx (.own x)) x (.ins Ca dx []))):=λb o q=>by
  obtain⟨q1,q2⟩:=aQ q;have hb:b≠x:=av q2 hx;rw[aM (by simp[q1,hb])];exact s2 _ _ q2
 show spI X.K Ca g (.ref x::(vs++[])) _ _ E0
 rw[List.append_nil]
 refine⟨x,vs,dx,λb=>O b||decide (b=x),ds,fl,rfl,ai,λb hb=>?_,by simp,IsL.mono le _ _ il,q3,λH' fs keep hx' hns' hl=>⟨rfl,?_⟩⟩
 ·rcases(Bool.or_eq_true _ _).mp hb with hb|hb
  ·exact(E1.lis b hb).same s2
  ·rw[of_decide_eq_true hb,ai];exact .inr (.inl ⟨_,_,_,rfl⟩)
 ·have s3:Same H1 H':=λb o q=>keep b o (av q hx) (s2 _ _ q);refine kk _ H' (s1.trans s3) ⟨x,Ca,dx,fs,rfl,hns,by rw[aM hOx];exact hx',hns',IsL.mono (λb o q=>?_) _ _ hl⟩;obtain⟨q1,q2⟩:=aQ q;have:O b=false:=by
   cases z:O b with
   |false=>rfl
   |true=>simp[z]at q1
  rw[aM this];exact q2
end
section
variable {K:Frag} {B:Bs} {O:Addr->Bool} {σ:St} {H:Hp} {Y:Ev}
theorem EnvOk.thaw (E:EnvOk K B O (σ++[some v]) H (Y++[some s])):∃O',EnvOk K B O' σ H Y/\Same (msk O H) (msk O' H)/\Is K (msk O' H) s.2 v:=by
 obtain⟨F,h1,h2,h3,h4⟩:=E.fp;have len:σ.length=Y.length:=by have:=E.len;simp at this;exact this
 obtain⟨v',e1,o1⟩:=h1 Y.length s (getElem?_last _ _);rw[<-len,getElem?_last]at e1;cases e1;let O':Addr->Bool:=λb=>O b&&!decide (b∈F Y.length);have le:Same (msk O H) (msk O' H):=λb o q=>by
  obtain⟨q1,q2⟩:=aQ q;rw[aM (by simp[O',q1])];exact q2
 refine⟨O',⟨E.same,E.bdom,λb hb=>?_,λb hb=>E.lis b (by simp[O']at hb;exact hb.1),len,λj=>if j=Y.length then[]else F j,λj x q=>?_,λj=>?_,λj k a hj hk=>?_,λj a hj=>?_⟩,le,o1.is le λa ha=>by simp[O',ha]⟩
 ·have h6:b ∉ F Y.length:=λz=>E.bdom b hb (h4 _ b z).2;simp[O',E.sub b hb,h6]
 ·have hjl:=(List.getElem?_eq_some_iff.mp q).1;have hj:j≠Y.length:=by omega
  obtain⟨w,e2,o2⟩:=h1 j x (by rw[getElem?_append_left hjl];exact q);exact⟨w,dR (by omega) e2,by simp only[if_neg hj];exact o2.frame le λ_ _ _ h=>h⟩
 all_goals grind
theorem EnvOk.store (E:EnvOk K B O σ H Y) (hx:B.O x=true) (hb:B.H x=some (.ins Ca dx fs)):EnvOk K ⟨upd B.H x (.ins Ca dx fs'),B.O⟩ O σ (upd H x (.ins Ca dx fs')) Y/\msk O (upd H x (.ins Ca dx fs'))=msk O H:=by
 have me:msk O (upd H x (.ins Ca dx fs'))=msk O H:=iH (E.sub x hx);obtain⟨F,h1,h2,h3,h4⟩:=E.fp;have no:∀i,x ∉ F i:=λi z=>by have:=(h4 i x z).2;rw[hb]at this;cases this
 refine⟨⟨λb o q=>?_,λb q=>?_,E.sub,λb q=>?_,E.len,F,λi s q=>?_,h2,h3,λi a ha=>⟨(h4 i a ha).1,?_⟩⟩,me⟩
 ·have q':upd B.H x (.ins Ca dx fs') b=some o:=q;by_cases h:b=x
  ·subst h;rw[ai]at q'⊢;exact q'
  ·rw[ah h]at q'⊢;exact E.same b o q'
 ·by_cases h:b=x
  ·subst h;show upd B.H b _ b≠none;rw[ai];simp
  ·show upd B.H x _ b≠none;rw[ah h];exact E.bdom b q
 ·by_cases h:b=x
  ·subst h;rw[ai];exact .inr (.inl ⟨_,_,_,rfl⟩)
  ·rw[ah h];exact E.lis b q
 ·obtain⟨v,e,o⟩:=h1 i s q;refine⟨v,e,o.frame (by rw[me];exact Same.refl _) λa ha u hu=>?_⟩;have:a≠x:=λz=>no i (z▸ha);rw[ah this];exact hu
 ·have:a≠x:=λz=>no i (z▸ha);show upd B.H x _ a=none;rw[ah this];exact(h4 i a ha).2
end
def qA (f:Str) (d:D):List (Str×D)->List (Str×D)
 |[]=>[(f,d)]
 |(g,e)::r=>if g=f then(g,d)::r else(g,e)::qA f d r
theorem uu {K} (h:Is K M d v):∀ {fd:List (Str×D)} {fs:List (Str×V)},fs.map (·.1)=fd.map (·.1)->IsL K M (fd.map (·.2)) (fs.map (·.2))->
  (eu f v fs).map (·.1)=(qA f d fd).map (·.1)/\IsL K M ((qA f d fd).map (·.2)) ((eu f v fs).map (·.2))
 |[],[],_,_=>⟨rfl,v,[],rfl,h,rfl⟩
 |[],_::_,e,_=>by simp at e
 |_::_,[],e,_=>by simp at e
 |(g,c)::fd,(g',u)::fs,e,⟨x,r,z,q,l⟩=>by
  have e1:g'=g:=by simp at e;exact e.1
  have e2:fs.map (·.1)=fd.map (·.1):=by simp at e;simpa using e.2
  subst e1;have z':u::fs.map (·.2)=x::r:=z;cases z';unfold eu qA;by_cases hg:g'=f
  ·rw[if_pos hg,if_pos hg];exact⟨by simp[e2],v,_,rfl,h,l⟩
  ·rw[if_neg hg,if_neg hg];obtain⟨a,b⟩:=uu h e2 l;exact⟨by simp[a],u,_,rfl,q,b⟩
abbrev InF:=Ev->List (Str×D)->Option (List (Str×D))
noncomputable def tIn (K:Frag) (Ca:Addr) (B:Bs) (O:Addr->Bool) (Y:Ev) (x dx:Addr) (fd:List (Str×D)) (o:Option (List (Str×D))):TS:=λEn σ H=>EnvOk K B O σ H Y/\B.O x=true/\
 (∃fs,B.H x=some (.ins Ca dx fs)/\fs.map (·.1)=fd.map (·.1)/\IsL K (msk O H) (fd.map (·.2)) (fs.map (·.2)))/\∃fd',o=some fd'/\
 ∀σ' H' O' fs',(∀b o,b≠x->B.H b=some o->H' b=some o)->(∀b,B.O b=true->O' b=true)->H' x=some (.ins Ca dx fs')->fs'.map (·.1)=fd'.map (·.1)->IsL K (msk O' H') (fd'.map (·.2)) (fs'.map (·.2))->En.nx σ' H'
def PIn (X:Cx) (Ca x:Addr) (st:List Stmt) (I:InF):Prop:=∀B O Y dx fd,PSs X st (tIn X.K Ca B O Y x dx fd (I Y fd))
def BF:InF:=λ_ fs=>some fs
def stI (F:Ev->Option Out) (G:InF):InF:=λY fs=>(F Y).bind λo=>match o with
 |.nx Y'=>G Y' fs
 |_=>none
def BG (x:Addr) (i:Nat) (f:Str) (g:Ev->Option (Sl×Ev)) (G:InF):InF:=λY fs=>(g Y).bind λz=>match gI z.2 i with
 |some (.sh,.adr a)=>if a=x/\fs.length<900 then G z.2 (qA f z.1.2 fs)else none
 |_=>none
section
variable {X:Cx} {Ca x:Addr} {st:Stmt} {rest:List Stmt} {e:Expr} {pos:Pos}
theorem Fa:PIn X Ca x [] BF:=λB O Y dx fd=>pss_nil.imp λEn σ H ⟨E,hx,⟨fs,h1,h2,h3⟩,fd',q,k⟩=>by
 cases q;exact k σ H O fs (λb o _ h=>E.same b o h) E.sub (E.same x _ h1) h2 h3
theorem BH (h1:PR X st F) (h2:PIn X Ca x rest G):PIn X Ca x (st::rest) (stI F G):=λB O Y dx fd=>
 (kN (h1 B O Y) (PSs.ex λz:(Addr->Bool)×Ev=>h2 B z.1 z.2 dx fd)).imp λEn σ H ⟨E,hx,⟨fs,a1,a2,a3⟩,fd',q,k⟩=>by
 obtain⟨o1,q1,q2⟩:=bind_some q;refine⟨E,o1,q1,?_⟩;cases o1 with
 |nx Y'=>exactλσ' H' O' s' E'=>⟨⟨O',Y'⟩,E',hx,⟨fs,a1,a2,IsL.mono s' _ _ a3⟩,fd',q2,k⟩
 |rt d=>cases q2
 |bk Y'=>cases q2
 |ct Y'=>cases q2
theorem Fb (i:Nat) (hv:PEv X e g) (h2:PIn X Ca x rest G) (hN:X.N[i]?=some self) (hvis:Vis X.env.scope self) (hd:(self==("__debug__":Str))=false) (hcd:(self==("__classdict__":Str))=false) (hs:swapsWith e (some (.Attribute (.Name self px) f pos')) pos.line X.env=pure false) (c:Cls X.K Ca) (na:NoAttr X.K Ca f):PIn X Ca x (.Assign [.Attribute (.Name self px) f pos'] e pos::rest) (BG x i f g G):=λB O Y dx fd=>
 (kN (Ei (bO hN hvis hd hcd) (hv B O Y).1 hs) (PSs.ex λz:Bs×(Addr->Bool)×Ev×List (Str×D)=>h2 z.1 z.2.1 z.2.2.1 dx z.2.2.2)).imp λEn σ H ⟨E,hx,⟨fs,a1,a2,a3⟩,fd',q,k⟩=>by
 obtain⟨⟨s,Y'⟩,q1,q⟩:=bind_some q;refine⟨E,s,Y',q1,λy H1 O1 s1 E1=>?_⟩;obtain⟨O2,E2,s2,iy⟩:=E1.thaw;have q':(match gI Y' i with|some (.sh,.adr a)=>if a=x/\fd.length<900 then G Y' (qA f s.2 fd)else none|_=>none)=some fd':=q;split at q'
 ·rename_i a ha;split at q'
  ·rename_i hc;obtain⟨rfl,hl⟩:=hc;obtain⟨F,f1,_⟩:=E2.fp;obtain⟨w,ew,ow⟩:=f1 i _ (eO ha);cases(show w=.ref a from ow.2);have hb:=E2.same a _ a1;have hlen:fs.length=fd.length:=by have:=congrArg List.length a2;simpa using this
   refine⟨.ref a,ew,a,Ca,dx,fs,rfl,hb,c,na,by omega,?_⟩;obtain⟨E3,me⟩:=E2.store (fs':=eu f y fs) hx a1;have a3':=IsL.mono (s1.trans s2) _ _ a3;obtain⟨b1,b2⟩:=uu (f:=f) iy a2 a3';refine⟨⟨⟨upd B.H a (.ins Ca dx (eu f y fs)),B.O⟩,O2,Y',qA f s.2 fd⟩,E3,hx,⟨_,ai,b1,by rw[me];exact b2⟩,fd',q',λσ' H' O' fs' k1 k2 k3 k4 k5=>k σ' H' O' fs' (λb o hb h=>k1 b o hb (by show upd B.H a _ b=some o;rw[ah hb];exact h)) k2 k3 k4 k5⟩
  ·cases q'
 ·cases q'
end
def sG (n:Nat) (x:Addr) (ds:List D):Ev:=aq n (.adr x::ds)
def xC (n m:Nat) (I:Addr->InF) (x:Addr) (ds:List D):Option (List (Str×D)):=if ds.length+1=n then I x (sG m x ds) []else none
theorem K6 {K} {st} (Fn:Fun K x qual st f fd) (S:FnScope N ps (aj st)) (hg:∀ds r,g ds=some r->∀y,xC ps.length N.length I y ds=some r) (hb:∀ (y:Addr) (cdv:Value) (A:Around) (outer:List Env) (s:Shared) (H:Hp) (E:XK),Room k (A.deeper (envOfC qual (aj st) s.heap.objs.size f cdv))->PIn (ic CX0 P w K mg base N qual (aj st) f cdv A outer s H E).nox Ca y (aK st) (I y)):
  FnOk P w K mg base CX0 (k+1) f fd ps (spI K Ca g):=by
 refine Fn.ok S (λvs H Q E ⟨y,vs',dx,O,ds,r,e1,_,_,_,il,e,_⟩=>?_) (λcdv A outer s H vs Q E hr ⟨y,vs',dx,O,ds,r,e1,hy,hO,hOy,il,e,kk⟩=>?_)
 ·have:=hg ds r e 0;unfold xC at this;split at this
  ·rename_i h;rw[e1,length_cons,<-il.len];exact h
  ·cases this
 ·have q:=hg ds r e y;unfold xC at q;split at q
  ·subst e1;have il':IsL K (msk O H) (.adr y::ds) (.ref y::vs'):=⟨_,_,rfl,rfl,il⟩;refine⟨_,hb y cdv A outer s H E hr ⟨H,O⟩ O (aq N.length (.adr y::ds)) dx [],lE hO il',hOy,⟨[],hy,rfl,rfl⟩,r,q,λσ' H' O' fs' k1 k2 k3 k4 k5=>?_⟩;refine kk H' fs' k1 k3 k4 (IsL.mono (λb o z=>?_) _ _ k5);obtain⟨z1,z2⟩:=aQ z;rw[aM ?_];exact z2;cases zz:O b with
   |false=>rfl
   |true=>rw[k2 b zz]at z1;cases z1
  ·cases q
structure NSt (b:Bool) (z j l:Addr) (k:Nat) (h:Heap):Prop where
 ne:z≠j
 hz:∃old,IsEnum h z j k old
 h1:ItK b h j l k
section
variable {prog:Program} {w:World} {A:Around} {E:Value->Shared->Prop} {s:Shared}
theorem xD {k:Nat} {Q:Value->Shared->Prop} (Z:IsEnum s.heap z j k old) (J:ItK b s.heap j l k) (C:CoK b s.heap l xs) (hx:xs[k]?=some x) (ne:z≠j) (hQ:∀g,IsEnumOut g z j ((k:Int)+1) x s.heap.objs.size->ItK b g j l (k+1)->g.get? s.heap.objs.size=some {cls:=.type "tuple",data:=.seq #[.int k s.toks,x]}->g.objs.size=s.heap.objs.size+1->
   (∀d o,d≠z->d≠j->s.heap.get? d=some o->g.get? d=some o)->Q (.ref s.heap.objs.size) {s with heap:=g,toks:=s.toks+1}):
  wpAny (model prog w) A (Builtin.«enumerate.__next__» ⟨[.ref z],[]⟩) (λfin s'=>∃v,fin=.done (.ret v)/\Q v s') E s:=by
 cases s with
 |mk hp gn dr tk os=>
 show wpAny _ _ (field (.ref z) 2>>=_) _ _ _
 refine wpAny_bind (wpAny_field Z rfl (x:=.ref j) rfl (wpAny_bind (Ir J C hx λg1 J1 s1=>?_)))
 replace s1:Heap.SameBut j hp g1:=s1
 have Z1:IsEnum g1 z j k old:=(s1.2 z ne).trans Z
 show wpAny _ _ (field (.ref z) 3>>=_) _ _ ⟨g1,gn,dr,tk,os⟩
 refine wpAny_bind (wpAny_field Z1 rfl (x:=rawInt k) rfl ?_)
 show wpAny _ _ (field (.ref z) 4>>=_) _ _ ⟨g1,gn,dr,tk,os⟩
 refine wpAny_bind (wpAny_field Z1 rfl (x:=.none) rfl ?_)
 show wpAny _ _ (mkInt k>>=_) _ _ ⟨g1,gn,dr,tk,os⟩
 refine wpAny_bind (wpAny_mkInt ?_)
 show wpAny _ _ (setField (.ref z) 3 (rawInt ((k:Int)+1))>>=_) _ _ ⟨g1,gn,dr,tk+1,os⟩
 refine wpAny_bind (wpAny_setField_rec Z1 (by simp) λg2 Z2 s2=>?_)
 replace s2:Heap.SameBut z g1 g2:=s2
 replace Z2:IsEnum g2 z j ((k:Int)+1) old:=Z2
 show wpAny _ _ (setField (.ref z) 4 .none>>=_) _ _ ⟨g2,gn,dr,tk+1,os⟩
 refine wpAny_bind (wpAny_setField_rec Z2 (by simp) λg3 Z3 s3=>?_)
 replace s3:Heap.SameBut z g2 g3:=s3
 replace Z3:IsEnum g3 z j ((k:Int)+1) old:=Z3
 show wpAny _ _ (newTuple [.int k tk,x]>>=_) _ _ ⟨g3,gn,dr,tk+1,os⟩
 refine wpAny_bind (wpAny_newTuple ?_)
 have Z4:IsEnum (g3.push {cls:=.type "tuple",data:=.seq #[.int k tk,x]}) z j ((k:Int)+1) old:=Heap.get?_push_of_some _ Z3
 have sz:g3.objs.size=hp.objs.size:=by rw[s3.1,s2.1,s1.1]
 have zl:z<hp.objs.size:=Heap.lt_size Z
 have T4:(g3.push {cls:=.type "tuple",data:=.seq #[.int k tk,x]}).get? hp.objs.size=some {cls:=.type "tuple",data:=.seq #[.int k tk,x]}:=by rw[<-sz];exact Heap.get?_push_size _ rfl
 have z4:(g3.push {cls:=.type "tuple",data:=.seq #[.int k tk,x]}).objs.size=hp.objs.size+1:=by rw[Heap.size_push,sz]
 have k4:∀d o,d≠z->d≠j->hp.get? d=some o->(g3.push {cls:=.type "tuple",data:=.seq #[.int k tk,x]}).get? d=some o:=λd o n1 n2 e=>
  Heap.get?_push_of_some _ (s3.extBut d o n1 (s2.extBut d o n1 (s1.extBut d o n2 e)))
 have J4:ItK b (g3.push {cls:=.type "tuple",data:=.seq #[.int k tk,x]}) j l (k+1):=((J1.ext s2 ne.symm).ext s3 ne.symm).at λo e=>Heap.get?_push_of_some _ e
 generalize g3.push {cls:=.type "tuple",data:=.seq #[.int k tk,x]}=g4 at Z4 T4 z4 k4 J4
 show wpAny _ _ (Builtin.SmallTypes.ownedTupleIsFree (.ref z)>>=_) _ _ ⟨g4,gn,dr,tk+1,os⟩
 rw[sz]
 refine wpAny_bind ?_
 unfold Builtin.SmallTypes.ownedTupleIsFree
 refine wpAny_bind (wpAny_field Z4 rfl (x:=.none) rfl (wpAny_pure ?_))
 simp only[if_true]
 refine wpAny_bind (wpAny_rule (wpAny_bind (wpAny_field Z4 rfl (x:=old) rfl (wpAny_bind (wpAny_setField_rec Z4 (by simp) λg5 Z5 s5=>?_)))))
 replace s5:Heap.SameBut z g4 g5:=s5
 replace Z5:IsEnum g5 z j ((k:Int)+1) x:=Z5
 show wpAny _ _ (Builtin.SmallTypes.ownedTupleHandOut (.ref z) (.ref hp.objs.size)>>=_) _ _ ⟨g5,gn,dr,tk+1,os⟩
 refine wpAny_bind ?_
 unfold Builtin.SmallTypes.ownedTupleHandOut
 refine wpAny_bind (wpAny_setField_rec Z5 (by simp) λg6 Z6 s6=>?_)
 replace s6:Heap.SameBut z g5 g6:=s6
 replace Z6:IsEnumOut g6 z j ((k:Int)+1) x hp.objs.size:=Z6
 refine wpAny_setField_rec Z6 (by simp) λg7 Z7 s7=>?_
 replace s7:Heap.SameBut z g6 g7:=s7
 replace Z7:IsEnumOut g7 z j ((k:Int)+1) x hp.objs.size:=Z7
 have up:∀d o,d≠z->g4.get? d=some o->g7.get? d=some o:=λd o n e=>s7.extBut d o n (s6.extBut d o n (s5.extBut d o n e))
 exact wpAny_bind (wpAny_letGo (wpAny_pure ⟨_,rfl,hQ g7 Z7 (J4.at λo e=>up _ o ne.symm e) (up _ _ (Nat.ne_of_gt zl) T4) (by rw[s7.1,s6.1,s5.1,z4]) λd o n1 n2 e=>up d o n1 (k4 d o n1 n2 e)⟩))
theorem xF (Z:NSt b z j l k s.heap) (C:CoK b s.heap l xs) (hx:xs[k]?=some x) (hQ:∀g,IsEnumOut g z j ((k:Int)+1) x s.heap.objs.size->ItK b g j l (k+1)->g.get? s.heap.objs.size=some {cls:=.type "tuple",data:=.seq #[.int k s.toks,x]}->g.objs.size=s.heap.objs.size+1->
   (∀d o,d≠z->d≠j->s.heap.get? d=some o->g.get? d=some o)->Q (some (.ref s.heap.objs.size)) {s with heap:=g,toks:=s.toks+1}):wpAny (model prog w) A (pyNext (.ref z)) Q E s:=by
 obtain⟨ne,⟨old,hz⟩,h1⟩:=Z
 have T:s.TypeIs (.ref z) "enumerate":=⟨_,hz,rfl⟩
 unfold pyNext
 exact wpAny_bind (wpAny_attempt (wpAny_callSpecial?_slot (name:=Str.ofString "__next__") T F.slot_enumerate_next (wpAny_call_entry F.slot_enumerate_next T F.entry_enumerate_next
  (xD hz h1 C hx ne λg a c d e f=>wpAny_pure (hQ g a c d e f)) (F.args_enumerate_next_1 _))))
theorem xH (hh:A.handled=none) (Z:NSt b z j l k s.heap) (C:CoK b s.heap l xs) (hx:xs[k]?=none) (hQ:∀g,Heap.ExtBut j s.heap g->Q none {s with heap:=g}):wpAny (model prog w) A (pyNext (.ref z)) Q E s:=by
 obtain⟨ne,⟨old,hz⟩,h1⟩:=Z;have T:s.TypeIs (.ref z) "enumerate":=⟨_,hz,rfl⟩;unfold pyNext;refine wpAny_bind (wpAny_attempt (wpAny_callSpecial?_slot (name:=Str.ofString "__next__") T F.slot_enumerate_next (wpAny_call_entry F.slot_enumerate_next T F.entry_enumerate_next ?_ (F.args_enumerate_next_1 _))));show wpAny _ _ (field (.ref z) 2>>=_) _ _ _;refine wpAny_bind (wpAny_field hz rfl (x:=.ref j) rfl (wpAny_bind (vI hh h1 C hx λg e q he=>?_)));obtain⟨o,ho,hc⟩:=he;exact wpAny_bind (wpAny_isInstance (T:="StopIteration") (b:=true) ⟨o,ho,hc⟩ isSubtype_stop (wpAny_pure (hQ _ q)))
abbrev nG (h:Heap) (b:Bool) (l:Addr):Heap:=(h.push (lA b l)).push {cls:=.type "enumerate",data:=.fields #[.none,.bool false,.ref h.objs.size,rawInt 0,.none,.none]}
theorem BI (b:Bool) (l:Addr) (xs:Array Value):Meets (Builtin.«enumerate.__new__» ⟨[.type "enumerate",.ref l],[]⟩) (λ_ R s=>CoK b s.heap l xs/\
   R (.ok (.ret (.ref (s.heap.push (lA b l)).objs.size))) {s with heap:=nG s.heap b l}):=
 .of_wp λprog w A R s h=>by
  cases s with
  |mk hp gn dr tk os=>
  obtain⟨c0,h⟩:=h;have hsub:=sub_enumerate;have C:CoK b (Shared.heap ⟨hp,gn,dr,tk,os⟩) l xs:=c0;wp_walk using xk C;refine wpAny_stack_any λst=>wpAny_pure ?_;split
  ·rename_i c _ _ _ _ _;cases(c==Value.type "enumerate")<;>(wp_walk using xk C;exact⟨_,rfl,h⟩)
  ·wp_walk using xk C;exact⟨_,rfl,h⟩
theorem xI (C:CoK b s.heap l xs) (h:∀g,NSt b (s.heap.objs.size+1) s.heap.objs.size l 0 g->g.objs.size=s.heap.objs.size+2->(∀d o,s.heap.get? d=some o->g.get? d=some o)->Q (.ref (s.heap.objs.size+1)) {s with heap:=g}):
  wpAny (model prog w) A (call (.type "enumerate") [.ref l]) Q E s:=by
 refine callType_new F.called_enumerate (by decide) (F.typeCall_enumerate_1 _) (F.newCall_enumerate_1 _) (λobj=>F.args_object_init_2 obj _) F.entry_enumerate_new (BI b l xs) ⟨C,?_⟩
 have z1:(s.heap.push (lA b l)).objs.size=s.heap.objs.size+1:=Heap.size_push ..
 have g2:IsEnum (nG s.heap b l) (s.heap.objs.size+1) s.heap.objs.size 0 .none:=by
  have:=Heap.get?_push_size (s.heap.push (lA b l)) (o:={cls:=.type "enumerate",data:=.fields #[.none,.bool false,.ref s.heap.objs.size,rawInt 0,.none,.none]}) rfl;rw[z1]at this;exact this
 have fb:(lA b l).isFreed=false:=by cases b<;>rfl
 have g1:(nG s.heap b l).get? s.heap.objs.size=some (lA b l):=Heap.get?_push_of_some _ (Heap.get?_push_size _ fb)
 have i1:ItK b (nG s.heap b l) s.heap.objs.size l 0:=by cases b<;>exact⟨_,g1,rfl,rfl⟩
 show _/\_
 rw[z1]
 exact⟨⟨_,g2,rfl⟩,h _ ⟨Nat.succ_ne_self _,⟨_,g2⟩,i1⟩ (by rw[Heap.size_push,z1]) λd o x=>Heap.get?_push_of_some _ (Heap.get?_push_of_some _ x)⟩
end
def Itn (K:Frag) (b:Bool) (l:Addr):It:=
 ⟨λi H=>∃xs x,SqK b K H l xs/\xs[i]?=some x,
  λi H v H'=>∃p x,v=.ref p/\H p=none/\H'=upd H p (.tup [.int i,x])/\∀xs,SqK b K H l xs->xs[i]?=some x,
  λi H=>∃xs,SqK b K H l xs/\xs.length<=i⟩
theorem NSt.live (Z:NSt b z j l k h) (hd:d∈[z,j]):∃o,h.get? d=some o/\∀v,o.data≠.cell v:=by
 simp at hd;rcases hd with rfl|rfl
 ·obtain⟨old,e⟩:=Z.hz;exact⟨_,e,λv q=>by cases q⟩
 ·obtain⟨o,n,vs,e,_,dd,_⟩:=Z.h1.live;exact⟨o,e,λv q=>by rw[dd]at q;cases q⟩
theorem xJ {P:Program} {w:World} {K:Frag} {elts:List Expr} {x1:Nat} {tpos:Pos} (b:Bool) (l z j:Addr):
  Turn P w K (.Tuple elts x1 tpos) (Itn K b l) [z,j] z (λi h=>NSt b z j l i h) where
 mem:=by simp
 obj:=λi h Z d hd=>Z.live hd
 keep:=λi h h' Z k=>by
  obtain⟨old,e⟩:=Z.hz;exact⟨Z.ne,⟨old,k z (by simp) _ e⟩,Z.h1.at λo q=>k j (by simp) o q⟩
 item:=by
  intro X hP hw hK hc i pins s σ H E I hf Z hg;subst hP hw hK;obtain⟨xs,x,hx,ex⟩:=hg;obtain⟨its,rv,p1,_⟩:=I.coK hx;obtain⟨u,hu,ru⟩:=rv.get ex;refine xF Z p1 (x:=u) (by simpa using hu) λh' Z' J' T' sz k'=>⟨_,rfl,?_⟩;refine wpAny_letOwnedTupleGo_enum Z' λh2 hz2 sb=>?_;obtain⟨old,hz⟩:=Z.hz;have zlt:z<s.heap.objs.size:=Heap.lt_size hz;have Z2:NSt b z j l (i+1) h2:=⟨Z.ne,⟨_,by rw[show((i+1:Nat):Int)=(i:Int)+1 from rfl];exact hz2⟩,J'.at λo q=>sb.extBut _ _ Z.ne.symm q⟩;have T2:=sb.extBut _ _ (Nat.ne_of_gt zlt) T';have kk:∀d o,d ∉ [z,j]->s.heap.get? d=some o->h2.get? d=some o:=λd o hd e=>by
   simp at hd;exact sb.extBut _ _ hd.1 (k' d o hd.1 hd.2 e)
  have fr:H s.heap.objs.size=none:=I.hok.fresh (le_refl _);refine⟨.ref s.heap.objs.size,_,I.turnedNew (t':=s.toks+1) (p:=s.heap.objs.size) (o:=.tup [.int i,x]) hf kk (le_refl _) ?_,rfl,⟨s.heap.objs.size,x,rfl,fr,rfl,λzs hzs=>by rw[I.coK_inj hzs hx];exact ex⟩,Z2,λd hd=>?_⟩
  ·exact⟨by show 2<=sizeLine;decide,[.int i s.toks,u],.cons ⟨_,rfl⟩ (.cons ru .nil),⟨_,T2,rfl,_,rfl⟩⟩
  ·obtain⟨o,eo,_⟩:=Z.live hd;rw[ah (Nat.ne_of_lt (Heap.lt_size eo))];exact(hf d hd).1
 done:=by
  intro X hP hw hK hc i pins s σ H E I hf Z hg;subst hP hw hK;obtain⟨xs,hx,hl⟩:=hg;obtain⟨its,rv,p1,_⟩:=I.coK hx;have e1:=rv.length;refine xH (I.ok.hd hc) Z p1 (by simp;omega) λh' k'=>⟨rfl,I.turnedL (t':=s.toks) hf λd o hd e=>?_⟩;simp at hd;exact k' d o hd.2 e
 self:=λ_ _ _ _ _ Z h=>by
  obtain⟨old,e⟩:=Z.hz;exact wpAny_pyIter_enum e h
section
variable {X:Cx} {tg a b e:Expr} {es:List Expr} {p pos:Pos}
theorem Fc:bootBuiltins "enumerate"=some (.type "enumerate"):=by decide+kernel
def K7 (K:Frag) (ta:TA):TI:=λσ H R=>ta σ H λvs H1=>∃b l xs,vs=[.ref l]/\SqK b K H1 l xs/\R (Itn K b l) H1
theorem Fd {x1} (hg:Gl X "enumerate") (hm:X.mg "enumerate"=none) (ha:PA X [a] ta) (hs:starEach [a] X.env=[(false,eval a X.env)]):
  PI X (.Tuple elts x1 tpos) (.Call (.Name "enumerate" p) [a] [] pos) (K7 X.K ta):=by
 intro pins s σ H R I h
 refine Call_ (hZ I hg hm Fc (PyProof.Rows.callWith_type1 (thn (ha pos pins s σ H _ I h) λus s1 ⟨vs,H1,I1,r1,q1⟩=>?_) (by rw[hs];rfl) (by rfl)))
 obtain⟨b,l,xs,e,hx,q⟩:=q1
 subst e
 obtain⟨u,rfl,ru⟩:=fS r1
 cases ru
 obtain⟨its,rx,p1,_⟩:=I1.coK hx
 refine xI p1 λh' Z sz k=>?_
 obtain⟨old,hz⟩:=Z.hz
 refine wpAny_pyIter_enum hz ?_
 have I2:Inv X pins σ H1 {s1 with heap:=h'}:=I1.kept (t':=s1.toks) k
 refine⟨s1.heap.objs.size+1,[s1.heap.objs.size+1,s1.heap.objs.size],_,_,H1,rfl,I2,xJ b l _ _,Z,λd hd=>?_,q⟩
 have hge:s1.heap.objs.size<=d:=by
  simp at hd;rcases hd with rfl|rfl<;>first|exact Nat.le_add_right _ _|exact le_refl _
 exact I1.fpOk hge (I1.hok.fresh hge)
def lG (xs:List D):List D:=xs.zipIdx.map λp=>.tup [.int (p.2:Nat),p.1]
theorem xK {K} {b} (hx:SqK b K Hm l xs) (il:IsL K Hm ds xs):nU K Hm (Itn K b l) (lG ds):=λi H O s hd=>by
 have hx':=hx.mono (s.trans msk_le);refine⟨λd hi=>?_,λhi=>⟨xs,hx',?_⟩⟩
 ·unfold lG at hi;rw[getElem?_map,List.getElem?_zipIdx]at hi;cases e:ds[i]? with
  |none=>rw[e]at hi;cases hi
  |some d1=>
   rw[e]at hi;cases hi;obtain⟨x,ex,ix⟩:=il.get e;refine⟨⟨xs,x,hx',ex⟩,?_⟩;rintro v H3 ⟨q,x',rfl,hq,rfl,kx⟩;have z1:=kx xs hx';rw[ex]at z1;cases z1;have hO:=fV hd hq;refine⟨Same.new hq,q,[.int i,x],rfl,.of (by rw[aM hO,ai]),?_⟩;have le:Same (msk O H) (msk O (upd H q (.tup [.int i,x]))):=(Same.new hq).msk;exact⟨.int i,[x],rfl,by show V.int _=V.int _;simp,x,[],rfl,Is.mono (s.trans le) _ _ ix,rfl⟩
 ·have h1:=il.len;unfold lG at hi;rw[length_map,List.length_zipIdx]at hi;omega
def uv:List D->Option (List D):=un1 λc=>(seqD c).bind λxs=>some (lG xs)
theorem Fe {x1} (hg:Gl X "enumerate") (hm:X.mg "enumerate"=none) (ha:PX X [a] fa) (hs:starEach [a] X.env=[(false,eval a X.env)]):
  PJ X (.Tuple elts x1 tpos) (.Call (.Name "enumerate" p) [a] [] pos) (λY=>(fa Y).bind uv):=λO Y=>(Fd hg hm (ha O Y) hs).imp λσ H R ⟨E,ds,q,k⟩=>by
 obtain⟨as,e1,q⟩:=bind_some q
 refine⟨E,as,e1,λvs H1 s1 il=>?_⟩
 obtain⟨c,rfl,q1⟩:=bF q
 obtain⟨xs,q2,q3⟩:=bind_some q1
 cases q3
 obtain⟨u,rfl,iu⟩:=is1 il
 obtain⟨l1,us,rfl,t1,m1⟩:=iJ q2 iu
 obtain⟨b1,t1⟩:=EL t1
 exact⟨b1,l1,us,rfl,t1.mono msk_le,k _ H1 s1 (xK t1 m1)⟩
end
section
variable {X:Cx} {a b:Expr} {pos:Pos}
def IA (K:Frag):R2:=λx y H Q=>∃l m xs zs,x=.ref l/\y=.ref m/\SqL K H l xs/\SqL K H m zs/\xs.length+zs.length<=sizeLine/\∀p,H p=none->Q (.ref p) (upd H p (.lst (xs++zs)))
theorem BJ:OpR X (binaryOp .Add) (IA X.K):=by
 intro pins s σ H x y v u Q I rx ry h;obtain⟨l,m,xs,zs,rfl,rfl,h1,h2,hz,q⟩:=h;cases rx;cases ry;obtain⟨its,r1,⟨⟨c1,d1,t1,s1⟩,n1,e1,k1,_,w1⟩,_⟩:=I.list h1;obtain⟨jts,r2,⟨⟨c2,d2,t2,s2⟩,n2,e2,k2,_,w2⟩,_⟩:=I.list h2;simp only at k1 w1 k2 w2;subst k1 w1 k2 w2;have hl1:=r1.length;have hl2:=r2.length;refine concat_meets ⟨_,e1,rfl⟩ ⟨_,e2,rfl⟩ noFill_list_add seq_list_add PySem.F.slot_list_add PySem.F.entry_list_add (PySem.F.args_list_add_2 _ _) (list_addW l m its.toArray jts.toArray n1 n2 d1 d2 s1 s2 (by rw[size_toArray,size_toArray];omega)) ⟨e1,e2,?_⟩;rw[show its.toArray++jts.toArray=(its++jts).toArray by simp];exact⟨.ref _,_,I.lnew (t':=s.toks) (r1.append r2) (by rw[length_append];omega),rfl,q _ I.fresh⟩
def K8 (d e:D):Option (List D):=(fW d).bind λxs=>(fW e).bind λys=>ck (some (xs++ys))
def xL (fa fb:Vv->Option D):Vv->Option (List D):=λY=>(fa Y).bind λx=>(fb Y).bind λy=>K8 x y
theorem Ff (ha:PP X a fa) (hb:PP X b fb):PF X (.BinOp a .Add b pos) (xL fa fb):=λO Y=>(wH BJ (ha O Y) (hb O Y)).imp λσ H Q ⟨E,ds,q,k⟩=>by
 obtain⟨dx,e1,q⟩:=bind_some q;obtain⟨dy,e2,q⟩:=bind_some q;obtain⟨xs,f1,q⟩:=bind_some q;obtain⟨ys,f2,q⟩:=bind_some q;obtain⟨g1,g2⟩:=cP q;cases g1;refine⟨E,dx,e1,λx H1 s1 i1=>⟨E.grow s1,dy,e2,λy H2 s2 i2=>?_⟩⟩;obtain⟨l,us,rfl,t1,l1⟩:=c8 f1 (Is.mono s2.msk dx x i1);obtain⟨m,ws,rfl,t2,l2⟩:=c8 f2 i2;refine⟨l,m,us,ws,rfl,rfl,msk_le.seq t1,msk_le.seq t2,?_,λp hp=>k p _ H2 (s1.trans s2) hp (l1.app l2)⟩;rw[length_append]at g2;rw[<-l1.len,<-l2.len];exact Nat.le_of_lt g2
end
section
variable {prog:Program} {w:World} {A:Around} {E:Value->Shared->Prop} {s:Shared}
end
section
variable {X:Cx} {a:Expr} {p p2 pos pos2:Pos}
theorem IB:bootBuiltins "list"=some (.type "list"):=by decide+kernel
end
theorem vN (l:Addr) (xs:Array Value) (n:Nat) (m:Addr) (ys:Array Value) (k:Nat) (dd:Option Addr) (sl:Array (Option Value)) (hc0:¬(!xs.isEmpty&&Builtin.List.listTooLong (xs.size+ys.size))=true) (hc1:xs.size<=sizeLine) (hs2:xs.size+ys.size<=sizeLine+1):
  Meets (Builtin.«list.extend» ⟨[.ref l,.ref m],[]⟩) (λ_ R s=>s.heap.get? l=some {cls:=.type "list",dict:=none,data:=.seq xs n,slots:=#[]}/\s.heap.get? m=some {cls:=.type "list",dict:=dd,data:=.seq ys k,slots:=sl}/\R (.ok (.ret Value.none)) {s with heap:=s.heap.update l (Obj.mapSeq λx=>x++ys),toks:=s.toks}):=
 .of_wp λprog w A R s h=>by
  obtain⟨hp,g,d,tk,os⟩:=s;obtain⟨hl,hb,h⟩:=h;have f1:=AutoSeq1.idx_int;have f2:=AutoSeq1.sub_tuple_tuple;have f3:=AutoSeq1.sub_list_list;have f4:=AutoSeq1.sub_tuple_list;have f5:=AutoSeq1.sub_list_tuple;have hz':(xs++ys).size<=sizeLine+1:=by rw[Array.size_append];exact hs2
  wp_walk using (wpAny_updateSeq hl rfl (hz:=hc1) (_hz':=hz')),AutoSeq1.wpAny_loadPart' hl,AutoSeq1.wpAny_loadPart' hb;exact⟨_,rfl,h⟩
def IC (K:Frag):V->List V->Hp->VK->Prop:=λx vs H Q=>∃l m xs zs,x=.ref l/\vs=[.ref m]/\H l=some (.lst xs)/\SqL K H m zs/\xs.length+zs.length<=sizeLine/\Q .non (upd H l (.lst (xs++zs)))
theorem uw:MtM X "list.extend" (IC X.K):=by
 intro pins s σ H x vs v us Q I rx rv h;obtain⟨l,m,xs,zs,rfl,rfl,hH,hB,hz,q⟩:=h;cases rx;obtain⟨u,rfl,ru⟩:=rv.one;cases ru;obtain⟨z,its,n,r,hl,e⟩:=I.lstM hH;obtain⟨jts,r2,⟨⟨c2,d2,t2,s2⟩,n2,e2,k2,_,w2⟩,_⟩:=I.list hB;simp only at k2 w2;subst k2 w2;have hl2:=r2.length;have hsz:its.toArray.size+jts.toArray.size<=sizeLine:=by rw[size_toArray,size_toArray];omega
 have hlong:¬ (!its.toArray.isEmpty&&Builtin.List.listTooLong (its.toArray.size+jts.toArray.size))=true:=by
  rw[ql hsz,Bool.and_false];exact Bool.false_ne_true
 refine call_meets F.slot_list_extend ⟨_,e,rfl⟩ F.entry_list_extend (F.args_list_extend_2 _ _) (vN l its.toArray n m jts.toArray n2 d2 s2 hlong (by rw[size_toArray];omega) (by omega)) ⟨e,e2,?_⟩;refine⟨.non,_,I.lset (its':=its++jts) hH e (by simp) (r.append r2) ?_,rfl,q⟩;rw[length_append];omega
def extS (d:D):Sl:=if lfD d then(.deep,d)else(.sh,d)
def extC:Cat->List D->Cat
 |c,[]=>c
 |c,d::ds=>extC (newCat c (extS d)) ds
section
variable {K:Frag} {B:Bs}
theorem EnvOk.moreS (E:EnvOk K B O σ H Y) (h:Is K (msk O H) d v):EnvOk K B O (σ++[some v]) H (Y++[some (extS d)]):=by
 unfold extS;split
 ·rename_i f;exact E.more (c:=.deep) (A:=[]) (O':=O) (Same.refl _) (Same.refl _) (λ_ h=>.inl h) (λ_ h=>h) (λ_ h=>(nomatch h)) (λ_ h=>(nomatch h)) List.nodup_nil (λ_ h=>(nomatch h)) (Is.deep d v f h)
 ·exact E.moreSh h
theorem vO (c:Cat) (s:Sl):newCat c s≠.sh:=by unfold newCat;split<;>intro z<;>cases z
theorem xM (h:H a=some o):upd H a o=H:=by
 funext b;simp_all [Hp,upd]
theorem EnvOk.extend {i:Nat}:∀ {es:List D} {zs:List V} {O:Addr->Bool} {H:Hp} {Y:Ev} {c:Cat} {ds:List D},EnvOk K B O σ H Y->Y[i]?=some (some (c,.lst ds))->c≠.sh->IsL K (msk O H) es zs->
  ∃a xs,σ[i]?=some (some (.ref a))/\H a=some (.lst xs)/\ds.length=xs.length/\∃O',EnvOk K B O' σ (upd H a (.lst (xs++zs))) (Y.set i (some (extC c es,.lst (ds++es))))/\Same (msk O H) (msk O' (upd H a (.lst (xs++zs))))
 |[],zs,O,H,Y,c,ds,E,h,hc,l=>by
  have l':zs=[]:=l;subst l';obtain⟨a,xs,e1,e2,e3,_⟩:=E.ownAt h hc;refine⟨a,xs,e1,e2,e3,O,?_,?_⟩
  ·rw[List.append_nil,List.append_nil,xM e2];show EnvOk K B O σ H (Y.set i (some (c,.lst ds)));rw[show Y.set i (some (c,D.lst ds))=Y from by
    obtain⟨hi,e⟩:=List.getElem?_eq_some_iff.mp h;rw[<-e];exact List.set_getElem_self hi]
   exact E
  ·rw[List.append_nil,xM e2];exact Same.refl _
 |d::es,zs,O,H,Y,c,ds,E,h,hc,l=>by
  obtain⟨z,r,rfl,hz,l⟩:=l;obtain⟨a,xs,e1,e2,e3,O1,E1,s1⟩:=(E.moreS hz).change fK sA sD h hc;have hi:=(List.getElem?_eq_some_iff.mp h).1;have h2:(Y.set i (some (newCat c (extS d),.lst (fK ds (extS d).2))))[i]?=some (some (newCat c (extS d),.lst (fK ds (extS d).2))):=by rw[List.getElem?_set_self hi]
  obtain⟨a',xs',f1,f2,f3,O2,E2,s2⟩:=EnvOk.extend E1 h2 (vO _ _) (IsL.mono s1 _ _ l);rw[e1]at f1;cases f1;rw[ai]at f2;cases f2;rw[AI]at E2 s2;rw[List.set_set]at E2;have ed:(extS d).2=d:=by unfold extS;split<;>rfl
  rw[ed]at E2;unfold fK at E2 s1 s2;rw[List.append_assoc,List.append_assoc]at E2;rw[List.append_assoc]at s2;exact⟨a,xs,e1,e2,e3,O2,E2,s1.trans s2⟩
end
section
variable {X:Cx} {e:Expr} {pos:Pos}
def BK (i:Nat) (R:Vv->Option D):Ev->Option Out:=λY=>(fR Y i).bind λw=>(R (shv Y)).bind λd=>(fW d).bind λes=>if w.2.length+es.length<big then some (.nx (Y.set i (some (extC w.1 es,.lst (w.2++es)))))else none
theorem sH (i:Nat) (h:PP X e R) (hN:X.N[i]?=some x) (hv:Vis X.env.scope x) (hd:(x==("__debug__":Str))=false) (hcd:(x==("__classdict__":Str))=false) (hst:starEach [e] X.env=(false,eval e X.env)::starEach [] X.env) (hline:(apos.endLine==cpos.line)=true):PR X (.Expr (.Call (.Attribute (.Name x px) "extend" apos) [e] [] cpos) pos) (BK i R):=λB O Y=>
 (dF (iF PySem.F.plainAttrs_list PySem.F.slot_list_extend PySem.F.type_list_extend uw (bO hN hv hd hcd) (bi (h O (shv Y)) pa_nil hst) rfl (by rw[hst];rfl) hline hst rfl)).imp λEn σ H ⟨E,o,q,k⟩=>by
 obtain⟨⟨c,ds⟩,q1,q⟩:=bind_some q;obtain⟨d,q2,q⟩:=bind_some q;obtain⟨es,q3,q⟩:=bind_some q;obtain⟨hz,q⟩:=aw q;subst q;obtain⟨h0,hc0⟩:=cr q1;obtain⟨a,xs0,e1,r3,_⟩:=E.ownAt h0 hc0;refine⟨.ref a,e1,.inl ⟨rfl,_,SqL.of r3⟩,E.viewS,d,q2,λv H1 s1 i1=>?_⟩;obtain⟨m,zs,rfl,t,l⟩:=c8 q3 i1;obtain⟨a',xs,e2,r4,hl,O2,E2,s2⟩:=(E.grow s1).extend h0 hc0 l;rw[e1]at e2;cases e2;exact⟨a,m,xs,zs,rfl,rfl,r4,msk_le.seq t,by rw[<-hl,<-l.len,eB];exact Nat.le_of_lt hz,k σ _ O2 (s1.msk.trans s2) E2⟩
def ID (i:Nat) (R:Vv->Option D):Ev->Option Out:=λY=>(fR Y i).bind λw=>(R (vw Y)).bind λd=>(fW d).bind λes=>if w.2.length+es.length<big/\lfL es=true then some (.nx (Y.set i (some (extC w.1 es,.lst (w.2++es)))))else none
theorem sI (i:Nat) (h:PP X e R) (hN:X.N[i]?=some x) (hv:Vis X.env.scope x) (hd:(x==("__debug__":Str))=false) (hcd:(x==("__classdict__":Str))=false) (hst:starEach [e] X.env=(false,eval e X.env)::starEach [] X.env) (hline:(apos.endLine==cpos.line)=true):PR X (.Expr (.Call (.Attribute (.Name x px) "extend" apos) [e] [] cpos) pos) (ID i R):=λB O Y=>
 (dF (iF PySem.F.plainAttrs_list PySem.F.slot_list_extend PySem.F.type_list_extend uw (bO hN hv hd hcd) (bi (h noO (vw Y)) pa_nil hst) rfl (by rw[hst];rfl) hline hst rfl)).imp λEn σ H ⟨E,o,q,k⟩=>by
 obtain⟨⟨c,ds⟩,q1,q⟩:=bind_some q;obtain⟨d,q2,q⟩:=bind_some q;obtain⟨es,q3,q⟩:=bind_some q;obtain⟨⟨hz,lf⟩,q⟩:=aw q;subst q;obtain⟨h0,hc0⟩:=cr q1;obtain⟨a,xs0,e1,r3,_⟩:=E.ownAt h0 hc0;refine⟨.ref a,e1,.inl ⟨rfl,_,SqL.of r3⟩,E.view,d,q2,λv H1 s1 i1=>?_⟩;obtain⟨m,zs,rfl,t,l⟩:=c8 q3 i1;obtain⟨a',xs,e2,r4,hl,O2,E2,s2⟩:=(E.grow s1).extend h0 hc0 (IsL.nl (E.grow s1).nl _ _ lf l.full);rw[e1]at e2;cases e2;exact⟨a,m,xs,zs,rfl,rfl,r4,msk_le.seq t,by rw[<-hl,<-l.len,eB];exact Nat.le_of_lt hz,k σ _ O2 (s1.msk.trans s2) E2⟩
def xN (i:Nat) (R:Vv->Option D):Ev->Option Out:=orO (BK i R) (ID i R)
theorem vP (i:Nat) (h:PP X e R) (hN:X.N[i]?=some x) (hv:Vis X.env.scope x) (hd:(x==("__debug__":Str))=false) (hcd:(x==("__classdict__":Str))=false) (hst:starEach [e] X.env=(false,eval e X.env)::starEach [] X.env) (hline:(apos.endLine==cpos.line)=true):PR X (.Expr (.Call (.Attribute (.Name x px) "extend" apos) [e] [] cpos) pos) (xN i R):=
 Ds (sH i h hN hv hd hcd hst hline) (sI i h hN hv hd hcd hst hline)
end
def shO:Option Sl->Option Sl
 |some (_,d)=>some (.sh,d)
 |none=>none
def frz1 (i:Nat) (Y:Ev):Ev:=match Y[i]? with
 |some x=>Y.set i (shO x)
 |none=>Y
def frzS:List Nat->Ev->Ev
 |[],Y=>Y
 |i::is,Y=>frzS is (frz1 i Y)
section
variable {K:Frag} {B:Bs} {O:Addr->Bool} {σ:St} {H:Hp} {Y:Ev}
theorem EnvOk.frz1 (E:EnvOk K B O σ H Y) (i:Nat):∃O',EnvOk K B O' σ H (frz1 i Y)/\Same (msk O H) (msk O' H):=by
 unfold L2.frz1;cases hx:Y[i]? with
 |none=>exact⟨O,E,Same.refl _⟩
 |some x=>
  obtain⟨F,h1,h2,h3,h4⟩:=E.fp;have le:Same (msk O H) (msk (λb=>O b&&!decide (b∈F i)) H):=λb o q=>by
   obtain⟨q1,q2⟩:=aQ q;rw[aM (by simp[q1])];exact q2
  refine⟨λb=>O b&&!decide (b∈F i),⟨E.same,E.bdom,λb hb=>?_,λb hb=>E.lis b (by simp at hb;exact hb.1),by rw[List.length_set];exact E.len,λj=>if j=i then[]else F j,λj s q=>?_,λj=>?_,λj k a hj hk=>?_,λj a hj=>?_⟩,le⟩
  ·have n:b ∉ F i:=λz=>E.bdom b hb (h4 i b z).2;simp[E.sub b hb,n]
  ·rcases get_set_some q with⟨e,q'⟩|⟨e,q'⟩
   ·subst e;cases x with
    |none=>cases q'
    |some z=>
     obtain⟨c,d⟩:=z;cases q';obtain⟨v,e1,o1⟩:=h1 j _ hx;refine⟨v,e1,?_⟩;simp only[if_true];exact⟨rfl,o1.is le λa ha=>by simp[ha]⟩
   ·obtain⟨v,e1,o1⟩:=h1 j s q';refine⟨v,e1,?_⟩;simp only[if_neg e];exact o1.frame le λ_ _ _ z=>z
  ·dsimp only;split
   ·exact List.nodup_nil
   ·exact h2 _
  ·by_cases e:j=i
   ·simp[e]at hj
   ·by_cases e2:k=i
    ·simp[e2]at hk
    ·simp only[if_neg e]at hj;simp only[if_neg e2]at hk;exact h3 j k a hj hk
  ·by_cases e:j=i
   ·simp[e]at hj
   ·simp only[if_neg e]at hj;obtain⟨o1,o2⟩:=h4 j a hj;have n:a ∉ F i:=λz=>e (h3 j i a hj z);exact⟨by simp[o1,n],o2⟩
theorem EnvOk.frzS:∀ (is:List Nat) {O:Addr->Bool} {Y:Ev},EnvOk K B O σ H Y->∃O',EnvOk K B O' σ H (frzS is Y)/\Same (msk O H) (msk O' H)
 |[],O,Y,E=>⟨O,E,Same.refl _⟩
 |i::is,O,Y,E=>by
  obtain⟨O1,E1,s1⟩:=E.frz1 i;obtain⟨O2,E2,s2⟩:=EnvOk.frzS is E1;exact⟨O2,E2,s1.trans s2⟩
end
def lsX (f:{α:Type}->List α->α->List α):Prop:=∀ {K:Frag} {M H:Hp} {ds:List D} {xs:List V} {A:List Addr} {d:D} {v:V},DeepL K M H ds xs A->Deep K M H d v []->DeepL K M H (f ds d) (f xs v) A
theorem xO:lsX fK:=λ{K M H ds xs A d v} h q=>by
 have:=DeepL.snoc q h;grind [lsX,fK]
theorem DeepL.sub {K} (f:{α:Type}->List α->α->List α) (hf:lsX f) (lf:lfD d=true) (hi:Is K M d v):∀ {ds:List D} {xs:List V} {A:List Addr} {j:Nat},DeepL K M H ds xs A->A.Nodup->ds[j]?=some (.lst ds2)->
  ∃a ys,xs[j]?=some (.ref a)/\a∈A/\H a=some (.lst ys)/\ds2.length=ys.length/\DeepL K M (upd H a (.lst (f ys v))) (ds.set j (.lst (f ds2 d))) xs A
 |[],xs,A,j,h,nd,e=>by simp at e
 |d0::ds,xs,A,0,⟨x,r,A1,A2,e1,e2,h1,h2⟩,nd,e=>by
  simp at e;subst e;obtain⟨a,ys,A',z1,z2,z3,l⟩:=h1;subst z1 e1 e2 z3;have n1:a ∉ A'/\a ∉ A2:=by
   have:=(List.nodup_cons.mp (show(a::(A'++A2)).Nodup from nd)).1;simp at this;exact this
  have fr:∀ (L:List Addr),a ∉ L->∀b∈L,∀o,H b=some o->upd H a (.lst (f ys v)) b=some o:=λL n b hb o q=>by rw[ah (show b≠a fromλz=>n (z▸hb))];exact q
  refine⟨a,ys,rfl,by simp,z2,DeepL.len l,_,_,a::A',A2,rfl,rfl,⟨a,f ys v,A',rfl,ai,rfl,?_⟩,DeepL.frame (NL.of (Same.refl _)) _ _ _ (fr A2 n1.2) h2⟩;exact hf (DeepL.frame (NL.of (Same.refl _)) _ _ _ (fr A' n1.1) l) (Is.deep d v lf hi)
 |d0::ds,xs,A,j+1,⟨x,r,A1,A2,e1,e2,h1,h2⟩,nd,e=>by
  subst e1 e2;obtain⟨n1,n2,n3⟩:=List.nodup_append.mp nd;obtain⟨a,ys,f1,f2,f3,f4,f5⟩:=DeepL.sub f hf lf hi h2 n2 (show ds[j]?=some (.lst ds2)by simpa using e);have na:a ∉ A1:=λz=>n3 a z a f2 rfl;refine⟨a,ys,by simpa using f1,mem_append_right _ f2,f3,f4,x,r,A1,A2,rfl,rfl,Deep.frame (NL.of (Same.refl _)) _ _ _ (λb hb o q=>?_) h1,f5⟩;rw[ah (show b≠a fromλz=>na (z▸hb))];exact q
section
variable {K:Frag} {B:Bs} {O:Addr->Bool} {σ:St} {H:Hp} {Y:Ev}
theorem EnvOk.changeIn (E:EnvOk K B O σ H Y) (f:{α:Type}->List α->α->List α) (hf:lsX f) {i j:Nat} (h:Y[i]?=some (some (.deep,.lst ds))) (hj:ds[j]?=some (.lst ds2)) (lf:lfD d=true) (hi:Is K (msk O H) d v):
  ∃a xs a2 ys,σ[i]?=some (some (.ref a))/\H a=some (.lst xs)/\ds.length=xs.length/\xs[j]?=some (.ref a2)/\H a2=some (.lst ys)/\ds2.length=ys.length/\
   EnvOk K B O σ (upd H a2 (.lst (f ys v))) (Y.set i (some (.deep,.lst (ds.set j (.lst (f ds2 d))))))/\Same (msk O H) (msk O (upd H a2 (.lst (f ys v)))):=by
 obtain⟨F,h1,h2,h3,h4⟩:=E.fp
 obtain⟨v0,e0,o0⟩:=h1 i _ h
 obtain⟨a,xs,A',z1,z2,z3,l⟩:=o0
 subst z1
 have nd:=h2 i
 rw[z3]at nd
 obtain⟨nA,ndA⟩:=List.nodup_cons.mp nd
 obtain⟨a2,ys,f1,f2,f3,f4,f5⟩:=DeepL.sub f hf lf hi l ndA hj
 have ha2:a2∈F i:=by rw[z3];exact mem_cons_of_mem _ f2
 obtain⟨o2,b2⟩:=h4 i a2 ha2
 have me:msk O (upd H a2 (.lst (f ys v)))=msk O H:=iH o2
 have le:Same (msk O H) (msk O (upd H a2 (.lst (f ys v)))):=by rw[me];exact Same.refl _
 have ne:a≠a2:=λz=>nA (z▸f2)
 refine⟨a,xs,a2,ys,e0,z2,DeepL.len l,f1,f3,f4,⟨λb o q=>?_,E.bdom,E.sub,λb hb=>?_,by rw[List.length_set];exact E.len,F,λk s q=>?_,h2,h3,h4⟩,le⟩
 ·rw[ah (av q b2)];exact E.same b o q
 ·by_cases e:b=a2
  ·subst e;exact .inl ⟨_,ai⟩
  ·rw[ah e];exact E.lis b hb
 ·rcases get_set_some q with⟨e,q'⟩|⟨e,q'⟩
  ·cases q';subst e;refine⟨.ref a,e0,a,xs,A',rfl,by rw[ah ne];exact z2,z3,?_⟩;rw[me];exact f5
  ·obtain⟨w,e1,o1⟩:=h1 k s q';refine⟨w,e1,o1.frame le λb hb o z=>?_⟩;have:b≠a2:=λz2=>e (h3 k i a2 (z2▸hb) ha2);rw[ah this];exact z
end
section
variable {X:Cx} {e:Expr} {pos:Pos}
def gN (Y:Ev) (i:Nat):Option (List D):=(fR Y i).bind λw=>if w.1=.deep then some w.2 else none
noncomputable def vQ (i:Nat) (fk:Vv->Option D) (R:Vv->Option D):Ev->Option Out:=λY=>(gN Y i).bind λds=>(fk (vw Y)).bind λy=>(intD y).bind λk=>(ixN ds.length k).bind λj=>(ds[j]?).bind λz=>(fW z).bind λds2=>
 (lfO (R (shv Y))).bind λd=>if ds2.length+1<big then some (.nx (Y.set i (some (.deep,.lst (ds.set j (.lst (ds2++[d])))))))else none
theorem lstD_some (h:fW d=some ds):d=.lst ds:=by
 cases d<;>first|(cases h;rfl)|cases h
theorem Fg (i:Nat) (hk:PP X ik fk) (h:PP X e R) (hN:X.N[i]?=some x) (hv:Vis X.env.scope x) (hd:(x==("__debug__":Str))=false) (hcd:(x==("__classdict__":Str))=false) (hix:kn ik) (hst:starEach [e] X.env=(false,eval e X.env)::starEach [] X.env) (hline:(apos.endLine==cpos.line)=true):
  PR X (.Expr (.Call (.Attribute (.Subscript (.Name x px) ik spos) "append" apos) [e] [] cpos) pos) (vQ i fk R):=λB O Y=>
 (dF (iF PySem.F.plainAttrs_list PySem.F.slot_list_append PySem.F.type_list_append je (Dk ix_list (bO hN hv hd hcd) (hk noO (vw Y)) hix) (bi (h O (shv Y)) pa_nil hst) rfl (by rw[hst];rfl) hline hst rfl)).imp λEn σ H ⟨E,o,q,k⟩=>by
 obtain⟨ds,q1,q⟩:=bind_some q
 obtain⟨y,q2,q⟩:=bind_some q
 obtain⟨n,q3,q⟩:=bind_some q
 obtain⟨j,q4,q⟩:=bind_some q
 obtain⟨z,q5,q⟩:=bind_some q
 obtain⟨ds2,q6,q⟩:=bind_some q
 obtain⟨d,q7,q⟩:=bind_some q
 obtain⟨hz,q⟩:=aw q
 subst q
 obtain⟨⟨c,ds'⟩,p1,p2⟩:=bind_some q1
 obtain⟨p3,p4⟩:=aw p2
 have p3:c=.deep:=p3
 have p4:ds'=ds:=p4
 subst p3 p4
 obtain⟨h0,hc0⟩:=cr p1
 cases intD_some q3
 cases lstD_some q6
 obtain⟨d',p5,p6⟩:=bind_some q7
 obtain⟨lf,p7⟩:=aw p6
 subst p7
 obtain⟨a,xs0,e1,r3,hl0,oa,_⟩:=E.ownAt h0 hc0
 refine⟨.ref a,e1,E.view,_,q2,λyv H1 s1 iy=>?_⟩
 cases(show yv=.int n from iy)
 have E1:=E.grow s1
 obtain⟨a',xs,a2,ys,g1,g2,g3,g4,g5,g6,_⟩:=E1.changeIn fK xO (d:=.non) (v:=.non) h0 q5 rfl rfl
 rw[e1]at g1
 cases g1
 refine⟨a,xs,n,.ref a2,rfl,rfl,SqL.of g2,?_,.inl ⟨rfl,_,SqL.of g5⟩,E1.viewS,d',p5,λv H2 s2 iv=>?_⟩
 ·unfold atI;rw[<-g3,q4];exact g4
 obtain⟨b',zs,b2,ws,k1,k2,k3,k4,k5,k6,k7,k8⟩:=(E1.grow s2).changeIn fK xO h0 q5 lf iv;rw[e1]at k1;cases k1;have w1:=s2 _ _ g2;rw[w1]at k2;cases k2;rw[g4]at k4;cases k4;exact⟨a2,ws,v,rfl,rfl,k5,by rw[eB,<-k6];exact Nat.lt_of_succ_lt hz,k σ _ O (s1.msk.trans (s2.msk.trans k8)) k7⟩
end
theorem Fh:PFr X (.Dict [] [] pos) (λ_=>some (.dct [] [])):=λY=>PE.pu (pe_dnewK.imp λσ H Q ⟨E,d,q,k⟩=>by
 cases q;exactλp hp=>k (.ref p) _ [p] (Same.new hp) ⟨p,[],[],rfl,ai,rfl,rfl,rfl,rfl⟩ (by simp) λa ha=>by rw[mem_singleton.mp ha];exact hp) rfl
def lH (ks:List Key) (k:Key):Bool:=ks.any λj=>decide (j=k)
def nZ (ks:List Key) (k:Key):List Key:=if lH ks k=true then ks else ks++[k]
def jN (ks:List Key) (ds:List D) (k:Key) (d:D):List D:=if lH ks k=true then List.zipWith (λj e=>if j=k then d else e) ks ds else ds++[d]
theorem ux (k:Key) (kvs:List (Key×V)):(kvs.any λkv=>decide (kv.1=k))=lH (kvs.map (·.1)) k:=by
 unfold lH;rw[List.any_map];rfl
theorem xP (kvs:List (Key×V)) (k:Key) (v:V):(fO kvs k v).map (·.1)=nZ (kvs.map (·.1)) k:=by
 unfold fO nZ;rw[ux];by_cases h:lH (kvs.map (·.1)) k=true
 ·rw[if_pos h,if_pos h,List.map_map];apply List.map_congr_left;intro p _;show(if p.1=k then(p.1,v)else p).1=p.1;split<;>rfl
 grind
theorem xQ {K} (hd:Is K M d v) (l:IsL K M ds (kvs.map (·.2))):IsL K M (jN (kvs.map (·.1)) ds k d) ((fO kvs k v).map (·.2)):=by
 unfold fO jN;rw[ux];by_cases h:lH (kvs.map (·.1)) k=true
 ·rw[if_pos h,if_pos h];clear h;induction kvs generalizing ds with
  |nil=>
   have e:ds=[]:=by cases ds with|nil=>rfl|cons a b=>obtain⟨_,_,z,_⟩:=l;cases z
   subst e;exact rfl
  |cons p r ih=>
   cases ds with
   |nil=>cases(show(p::r).map (·.2)=[]from l)
   |cons e ds=>
    obtain⟨x,t,z,h,l⟩:=l;have z':p.2::r.map (·.2)=x::t:=z;cases z';refine⟨_,_,rfl,?_,ih l⟩;show Is K M (if p.1=k then d else e) (if p.1=k then(p.1,v)else p).2;by_cases hk:p.1=k
    ·rw[if_pos hk,if_pos hk];exact hd
    ·rw[if_neg hk,if_neg hk];exact h
 ·rw[if_neg h,if_neg h,List.map_append];exact l.app ⟨v,[],rfl,hd,rfl⟩
theorem Fi (hd:lfD d=true):∀ {ds:List D},lfL ds=true->lfL (jN ks ds k d)=true:=λ{ds} h=>by
 unfold jN;split
 ·rename_i hn;clear hn;induction ks generalizing ds with
  |nil=>rfl
  |cons j ks ih=>
   cases ds with
   |nil=>rfl
   |cons e ds=>
    have h':(lfD e&&lfL ds)=true:=h;rw[and_eq_true]at h';show(lfD (if j=k then d else e)&&lfL (List.zipWith _ ks ds))=true;rw[ih h'.2,Bool.and_true];split
    ·exact hd
    ·exact h'.1
 ·rename_i hn;clear hn;induction ds with
  |nil=>show(lfD d&&true)=true;rw[hd];rfl
  |cons e ds ih=>
   have h':(lfD e&&lfL ds)=true:=h;rw[and_eq_true]at h';show(lfD e&&lfL (ds++[d]))=true;rw[h'.1,ih h'.2];rfl
def j9 (Y:Ev) (i:Nat):Option (List Key×List D):=(gI Y i).bind λs=>match s with
 |(.deep,.dct ks ds)=>some (ks,ds)
 |_=>none
theorem jm (h:j9 Y i=some w):Y[i]?=some (some (.deep,.dct w.1 w.2)):=by
 obtain⟨⟨c,d⟩,h1,h2⟩:=bind_some h;have h2':(match(c,d)with|(.deep,.dct ks ds)=>some (ks,ds)|_=>none)=some w:=h2;split at h2'
 ·rename_i ks ds e;cases h2';cases e;exact eO h1
 ·cases h2'
section
variable {K:Frag} {B:Bs} {O:Addr->Bool} {σ:St} {H:Hp} {Y:Ev}
theorem EnvOk.dctAt (E:EnvOk K B O σ H Y) {i:Nat} (h:Y[i]?=some (some (.deep,.dct ks ds))):∃a kvs,σ[i]?=some (some (.ref a))/\H a=some (.dK kvs)/\kvs.map (·.1)=ks/\O a=true/\B.H a=none:=by
 obtain⟨F,h1,h2,h3,h4⟩:=E.fp;obtain⟨v,e,a,kvs,A',z1,z2,z3,z4,l⟩:=h1 i _ h;grind
theorem EnvOk.dput (E:EnvOk K B O σ H Y) {i:Nat} (h:Y[i]?=some (some (.deep,.dct ks ds))) (lf:lfL ds=true) (ld:lfD d=true) (hv:Is K (msk O H) d v) (k:Key):
  ∃a kvs,σ[i]?=some (some (.ref a))/\H a=some (.dK kvs)/\kvs.map (·.1)=ks/\EnvOk K B O σ (upd H a (.dK (fO kvs k v))) (Y.set i (some (.deep,.dct (nZ ks k) (jN ks ds k d))))/\Same (msk O H) (msk O (upd H a (.dK (fO kvs k v)))):=by
 obtain⟨F,h1,h2,h3,h4⟩:=E.fp
 obtain⟨v0,e0,a,kvs,A',z1,z2,z3,z4,l⟩:=h1 i _ h
 subst z1
 have hA:A'=[]:=DeepL.lf ds _ A' lf l
 subst hA
 have haF:a∈F i:=by rw[z4];exact mem_cons_self
 obtain⟨oa,ba⟩:=h4 i a haF
 have me:msk O (upd H a (.dK (fO kvs k v)))=msk O H:=iH oa
 have le:Same (msk O H) (msk O (upd H a (.dK (fO kvs k v)))):=by rw[me];exact Same.refl _
 refine⟨a,kvs,e0,z2,z3,⟨λb o q=>?_,E.bdom,E.sub,λb hb=>?_,by rw[List.length_set];exact E.len,F,λj s q=>?_,h2,h3,h4⟩,le⟩
 ·rw[ah (av q ba)];exact E.same b o q
 ·by_cases e:b=a
  ·subst e;exact .inr (.inr ⟨_,ai⟩)
  ·rw[ah e];exact E.lis b hb
 ·rcases get_set_some q with⟨e,q'⟩|⟨e,q'⟩
  ·cases q';subst e;refine⟨.ref a,e0,a,_,[],rfl,ai,by rw[xP,z3],z4,?_⟩;rw[me];subst z3;have il:IsL K (msk O H) ds (kvs.map (·.2)):=DeepL.is (NL.of (Same.refl _)) ds _ [] (λ_ h=>(nomatch h)) l;exact IsL.deep _ _ (Fi ld lf) (xQ hv il)
  ·obtain⟨w,e1,o1⟩:=h1 j s q';refine⟨w,e1,o1.frame le λb hb o z=>?_⟩;have:b≠a:=λz2=>e (h3 j i a (z2▸hb) haF);rw[ah this];exact z
end
section
variable {X:Cx} {e:Expr} {pos:Pos}
def IE:D5:=λo i v H Q=>∃p kvs k,o=.ref p/\i=kV k/\H p=some (.dK kvs)/\kvs.length<sizeLine/\Q (upd H p (.dK (fO kvs k v)))
theorem xR:Hr X IE:=by
 intro pins s σ H o i v ov iv u Q I ro ri rv h;obtain⟨p,kvs,k,rfl,rfl,hp,hl,q⟩:=h;cases ro;obtain⟨z,hd,vs,rel,dd⟩:=Dn I.hok hp;have hz:vs.length<=sizeLine:=by rw[<-rel.length];exact z
 have hl':(fO kvs k v).length<=sizeLine:=by have:=jJ kvs k v;omega
 refine wpAny_setItem_pairs (hsz:=hz) (qq ri) dd λh' dd' hs=>⟨_,?_,q⟩;have he:∃q,h'.get? p=some q:=let⟨q,_,_,hq,_⟩:=dd';⟨q,hq⟩;exact ud I (by rw[hp];exact True.intro) hs he (wV hl' hd (rel.put k rv) dd')
def xS (i:Nat) (fk:Vv->Option D) (R:Vv->Option D):Ev->Option Out:=λY=>(j9 Y i).bind λw=>(lfO (R (vw Y))).bind λd=>(fk (vw Y)).bind λy=>(vC y).bind λk=>if lfL w.2=true/\w.1.length+1<big then some (.nx (Y.set i (some (.deep,.dct (nZ w.1 k) (jN w.1 w.2 k d)))))else none
theorem Fj (i:Nat) (h:PP X e R) (hk:PP X ik fk) (hN:X.N[i]?=some x) (hv:Vis X.env.scope x) (hd:(x==("__debug__":Str))=false) (hcd:(x==("__classdict__":Str))=false) (ha:∀v,assign (.Subscript (.Name x px) ik spos) X.env v=(do
   let ov<-holding [v] (eval (.Name x px) X.env)
   let iv<-holding [v,ov] (eval ik X.env)
   standAt spos
   holding [v,ov,iv] (setItem ov iv v)
   release [v,ov,iv] [])) (hs:swapsWithSole [.Subscript (.Name x px) ik spos] e pos.line X.env=pure false) (hw:swappedStores [.Subscript (.Name x px) ik spos] e X.env=pure none) (h1:(assignEach [.Subscript (.Name x px) ik spos] X.env).map (·.2)=[assign (.Subscript (.Name x px) ik spos) X.env]):PR X (.Assign [.Subscript (.Name x px) ik spos] e pos) (xS i fk R):=λB O Y=>
 (D7 (h noO (vw Y)) (D6 (bO hN hv hd hcd) (hk noO (vw Y)) xR ha) hs hw h1).imp λEn σ H ⟨E,o,q,k⟩=>by
 obtain⟨⟨ks,ds⟩,q1,q⟩:=bind_some q
 obtain⟨d,q2,q⟩:=bind_some q
 obtain⟨y,q3,q⟩:=bind_some q
 obtain⟨j,q4,q⟩:=bind_some q
 obtain⟨⟨hl,hz⟩,q⟩:=aw q
 subst q
 obtain⟨d',p5,p6⟩:=bind_some q2
 obtain⟨ld,p7⟩:=aw p6
 subst p7
 have h0:=jm q1
 refine⟨E.view,d',p5,λv H1 s1 iv=>?_⟩
 have E1:=E.grow s1
 obtain⟨a,kvs,e1,e2,e3,_⟩:=E1.dctAt h0
 refine⟨.ref a,e1,E1.view,y,q3,λyv H2 s2 iy=>?_⟩
 have E2:=E1.grow s2
 have iv':Is X.K (msk O H2) d' v:=Is.nl (by have:=E2.nl;rw[fm]at*;exact(NL.of s2).trans this) d' v ld iv
 obtain⟨a',kvs',f1,f2,f3,f4,f5⟩:=E2.dput h0 hl ld iv' j
 rw[e1]at f1
 cases f1
 exact⟨a,kvs',j,rfl,oJ q4 iy,f2,by
  have:kvs'.length=ks.length:=by have:=congrArg List.length f3;rwa [length_map]at this
  have hz:ks.length+1<big:=hz;rw[eB];omega,k σ _ O (s1.msk.trans (s2.msk.trans f5)) f4⟩
end
section
variable {X:Cx} {a:Expr} {p pos:Pos}
theorem xU:bootBuiltins "sorted"=some (.builtin "sorted"):=by decide+kernel
def jn (ns:List Int):List Int:=ns.mergeSort (λa b=>decide (a<=b))
theorem xV (h1:ms.Perm ns) (h2:ms.Pairwise (·<=·)):ms=jn ns:=by
 refine List.Perm.eq_of_pairwise (le:=λa b=>a<=b) (λa b _ _ h h'=>Int.le_antisymm h h') h2 ?_ (h1.trans (List.mergeSort_perm _ _).symm);have:=List.pairwise_mergeSort (le:=λa b:Int=>decide (a<=b)) (λa b c h1 h2=>decide_eq_true (Int.le_trans (of_decide_eq_true h1) (of_decide_eq_true h2))) (λa b=>by simp;omega) ns;grind [jn]
theorem Du:∀ {ns:List Int} {us:List Value},Vals (ns.map V.int) us->IntsAre us ns
 |[],_,.nil=>.nil
 |n::ns,_,.cons ⟨t,e⟩ r=>by subst e;exact .cons n t (Du r)
theorem n4:∀ {us:List Value} {ns:List Int},IntsAre us ns->Vals (ns.map V.int) us
 |_,_,.nil=>.nil
 |_,_,.cons n t r=>.cons ⟨t,rfl⟩ (n4 r)
def IF (K:Frag):List V->Hp->VK->Prop:=λvs H Q=>∃l ns,vs=[.ref l]/\SqL K H l (ns.map V.int)/\ns.length<64/\∀q,H q=none->Q (.ref q) (upd H q (.lst ((jn ns).map V.int)))
theorem vR:cL X (.builtin "sorted") (IF X.K):=by
 intro pins s σ H xs us Q I r h;obtain⟨l,ns,rfl,hx,h64,q⟩:=h;obtain⟨u,rfl,ru⟩:=fS r;cases ru;obtain⟨its,rv,pl,hz⟩:=I.list hx;have hl:=rv.length;rw[length_map]at hl;refine PyProof.Rows.sorted_ints pl.isList (Du rv) (by omega) λout ms h1 h2 h3=>?_;obtain⟨e,he⟩:=sortedAll_at s.heap its out;have z:=xV h2 h3;subst z;have fr:H (s.heap.objs.size+1)=none:=I.hok.fresh (Nat.le_succ _);refine⟨.ref _,_,I.laid (t':=s.toks) (λb o q=>sortedAll_old q) (Nat.le_succ _) (o:=.lst ((jn ns).map V.int)) ⟨?_,out.toList,e,n4 h1,by simpa using he⟩,rfl,q _ fr⟩;rw[length_map,h2.length_eq];have:(64:Nat)<=sizeLine:=by decide
 omega
def jO:List D->Option (List D):=un1 λd=>(fW d).bind λds=>(dA ds).bind λns=>if ns.length<64 then some ((jn ns).map D.int)else none
theorem lI {K}:∀ (ns:List Int),IsL K H (ns.map D.int) (ns.map V.int)
 |[]=>rfl
 |n::ns=>⟨_,_,rfl,rfl,lI ns⟩
theorem BL (hg:Gl X "sorted") (hm:X.mg "sorted"=none) (ha:PX X [a] fa) (hs:starEach [a] X.env=[(false,eval a X.env)]):
  PF X (.Call (.Name "sorted" p) [a] [] pos) (λY=>(fa Y).bind jO):=λO Y=>(fT vR hg hm xU (ha O Y) (by decide) (by decide) (by rw[hs];rfl) rfl).imp λσ H Q ⟨E,ds,q,k⟩=>by
 obtain⟨as,e1,q⟩:=bind_some q
 refine⟨E,as,e1,λvs H1 s1 il=>?_⟩
 obtain⟨c,rfl,q2⟩:=bF q
 obtain⟨xs,q3,q4⟩:=bind_some q2
 obtain⟨ns,q5,q6⟩:=bind_some q4
 obtain⟨h64,q7⟩:=aw q6
 subst q7
 obtain⟨v,rfl,h⟩:=is1 il
 obtain⟨l,ys,rfl,t,l2⟩:=c8 q3 h
 rw[jg q5 l2]at t
 exact⟨l,ns,rfl,msk_le.seq t,h64,λb hb=>k b _ H1 s1 hb (lI _)⟩
end
end L2
namespace L2
open PySem PySem.W PyProof.Rows
def kRun {α:Type} (c:Nat->Nat->Bool):KasT α->α
 |.ret a=>a
 |.ask i j k=>kRun c (k (c i j))
theorem dM {f:α->KasT β}:∀t:KasT α,kRun c (t.bind f)=kRun c (f (kRun c t))
 |.ret _=>rfl
 |.ask i j k=>dM (k (c i j))
section
variable {ky:Nat->Int}
def kC (ky:Nat->Int) (i j:Nat):Bool:=decide (ky i<ky j)
def kG (ky:Nat->Int) (p:Array Nat) (i:Nat):Int:=ky (p.getD i 0)
theorem lJ (h:p[i]?=q[j]?):kG ky p i=kG ky q j:=by simp_all [kG]
def kUp (ky:Nat->Int) (p:Array Nat) (k:Nat):Prop:=∀i j,i<=j->j<k->kG ky p i<=kG ky p j
def kDn (ky:Nat->Int) (p:Array Nat) (k:Nat):Prop:=∀i j,i<=j->j<k->kG ky p j<=kG ky p i
def kEq (ky:Nat->Int) (p:Array Nat) (a b:Nat):Prop:=∀i,a<=i->i<b->kG ky p i=kG ky p (b-1)
theorem sJ (hj:j<=p.size) (k:Nat):(kas_rev p i j)[k]?=if i<=k/\k<j then p[i+j-1-k]? else p[k]?:=by
 unfold kas_rev;rw[getElem?_mirror hj _ (by omega)];grind
theorem lK (hj:j<=p.size) (h:kEq ky p i j) (k:Nat):kG ky (kas_rev p i j) k=kG ky p k:=by
 have e:=sJ (i:=i) hj k;by_cases c:i<=k/\k<j
 ·rw[if_pos c]at e;rw[lJ e,h _ (by omega) (by omega),h k c.1 c.2]
 ·rw[if_neg c]at e;exact lJ e
theorem cu (p:Array Nat) (i j:Nat):(kas_rev p i j).Perm p:=mirror_perm _ _ _ _
theorem dN {p q:Array Nat} (h:p.Perm q):p.size=q.size:=h.size_eq
theorem sK:∀ (f n:Nat),1<=n->kUp ky p n->
  n<=kRun (kC ky) (kas_asc p f n)/\kRun (kC ky) (kas_asc p f n)<=n+f/\kUp ky p (kRun (kC ky) (kas_asc p f n))/\
   (kRun (kC ky) (kas_asc p f n)=n+f\/kG ky p (kRun (kC ky) (kas_asc p f n))<kG ky p (kRun (kC ky) (kas_asc p f n)-1))
 |0,n,_,h=>⟨le_refl _,le_refl _,h,.inl rfl⟩
 |f+1,n,h1,h=>by
  have e:kRun (kC ky) (kas_asc p (f+1) n)=if kG ky p n<kG ky p (n-1)then n else kRun (kC ky) (kas_asc p f (n+1)):=by
   show kRun (kC ky) (if decide (kG ky p n<kG ky p (n-1))=true then KasT.ret n else kas_asc p f (n+1))=_;by_cases c:kG ky p n<kG ky p (n-1)
   ·rw[if_pos c,if_pos (decide_eq_true c)];rfl
   ·rw[if_neg c,if_neg (by rw[decide_eq_true_eq];exact c)]
  rw[e];by_cases c:kG ky p n<kG ky p (n-1)
  ·rw[if_pos c];exact⟨le_refl _,by omega,h,.inr c⟩
  ·rw[if_neg c];obtain⟨a1,a2,a3,a4⟩:=sK f (n+1) (by omega) (λi j hij hj=>by
    rcases Nat.lt_or_ge j n with q|q
    ·exact h i j hij q
    ·have:j=n:=by omega
     subst this;rcases Nat.lt_or_ge i j with r|r
     ·exact Int.le_trans (h i (j-1) (by omega) (by omega)) (by omega)
     ·have:i=j:=by omega
      subst this;exact Int.le_refl _)
   exact⟨by omega,by omega,a3,a4.imp (λq=>by omega) id⟩
structure kDs (ky:Nat->Int) (p:Array Nat) (n q:Nat):Prop where
 n1:1<=n
 hq:q+1<=n
 dn:kDn ky p n
 eq:kEq ky p (n-(q+1)) n
theorem pd (h1:1<=n) (h:kDn ky p n) (c:kG ky p n<=kG ky p (n-1)) (e:∀k,kG ky p' k=kG ky p k):kDn ky p' (n+1):=λi j hij hj=>by
 rw[e,e];rcases Nat.lt_or_ge j n with q|q
 ·exact h i j hij q
 ·have:j=n:=by omega
  subst this;rcases Nat.lt_or_ge i j with r|r
  ·exact Int.le_trans c (h i (j-1) (by omega) (by omega))
  ·have:i=j:=by omega
   subst this;exact Int.le_refl _
theorem kt:∀ (f:Nat) (p:Array Nat) (n q:Nat),kDs ky p n q->n+f<=p.size->
  ∃p' m q',kRun (kC ky) (kas_desc f p n q)=(p',m,q')/\p'.Perm p/\n<=m/\m<=n+f/\kDs ky p' m q'
 |0,p,n,q,h,_=>⟨p,n,q,rfl,.refl _,le_refl _,le_refl _,h⟩
 |f+1,p,n,q,h,hz=>by
  have e:kRun (kC ky) (kas_desc (f+1) p n q)=if kG ky p n<kG ky p (n-1)then(if q>0 then kRun (kC ky) (kas_desc f (kas_rev p (n-(q+1)) n) (n+1) 0)else kRun (kC ky) (kas_desc f p (n+1) 0))
    else if kG ky p (n-1)<kG ky p n then(p,n,q)else kRun (kC ky) (kas_desc f p (n+1) (q+1)):=by
   show kRun (kC ky) (if decide (kG ky p n<kG ky p (n-1))=true then(if q>0 then kas_desc f (kas_rev p (n-(q+1)) n) (n+1) 0 else kas_desc f p (n+1) 0)
    else KasT.ask (p.getD (n-1) 0) (p.getD n 0) λd=>if d=true then KasT.ret (p,n,q)else kas_desc f p (n+1) (q+1))=_
   by_cases c:kG ky p n<kG ky p (n-1)
   ·rw[if_pos c,if_pos (decide_eq_true c)];by_cases c2:q>0
    ·rw[if_pos c2,if_pos c2]
    ·rw[if_neg c2,if_neg c2]
   ·rw[if_neg c,if_neg (by rw[decide_eq_true_eq];exact c)];show kRun (kC ky) (if decide (kG ky p (n-1)<kG ky p n)=true then KasT.ret (p,n,q)else kas_desc f p (n+1) (q+1))=_;by_cases c2:kG ky p (n-1)<kG ky p n
    ·rw[if_pos c2,if_pos (decide_eq_true c2)];rfl
    ·rw[if_neg c2,if_neg (by rw[decide_eq_true_eq];exact c2)]
  have one:∀p':Array Nat,kEq ky p' (n+1-(0+1)) (n+1):=λp' i h1 h2=>by
   have:i=n+1-1:=by omega
   rw[this]
  rw[e];by_cases c:kG ky p n<kG ky p (n-1)
  ·rw[if_pos c];by_cases c2:q>0
   ·rw[if_pos c2];have hr:=cu p (n-(q+1)) n;have hs:=dN hr;obtain⟨p',m,q',a1,a2,a3,a4,a5⟩:=kt f (kas_rev p (n-(q+1)) n) (n+1) 0 ⟨by omega,by omega,pd h.n1 h.dn (Int.le_of_lt c) (lK (by omega) h.eq),one _⟩ (by omega);exact⟨p',m,q',a1,a2.trans hr,by omega,by omega,a5⟩
   ·rw[if_neg c2];obtain⟨p',m,q',a1,a2,a3,a4,a5⟩:=kt f p (n+1) 0 ⟨by omega,by omega,pd h.n1 h.dn (Int.le_of_lt c) (λ_=>rfl),one _⟩ (by omega);exact⟨p',m,q',a1,a2,by omega,by omega,a5⟩
  ·rw[if_neg c];by_cases c2:kG ky p (n-1)<kG ky p n
   ·rw[if_pos c2];exact⟨p,n,q,rfl,.refl _,le_refl _,by omega,h⟩
   ·rw[if_neg c2];have eq:kG ky p n=kG ky p (n-1):=by omega
    obtain⟨p',m,q',a1,a2,a3,a4,a5⟩:=kt f p (n+1) (q+1) ⟨by omega,by have:=h.hq;omega,pd h.n1 h.dn (Int.le_of_eq eq) (λ_=>rfl),λi h1 h2=>by
     show kG ky p i=kG ky p n;rcases Nat.lt_or_ge i n with r|r
     ·rw[h.eq i (by omega) r,eq]
     ·have:i=n:=by omega
      rw[this]⟩ (by omega)
    exact⟨p',m,q',a1,a2,by omega,by omega,a5⟩
theorem uy (h1:1<=n) (hn:n<=nrem) (hz:nrem<=p.size) (h:kDn ky p n):
  ∃m p',kRun (kC ky) (kas_tail3 n nrem p)=(m,p')/\p'.Perm p/\1<=m/\m<=nrem/\kUp ky p' m:=by
 have up:kUp ky (kas_rev p 0 n) n:=λi j hij hj=>by
  have e1:=sJ (p:=p) (i:=0) (j:=n) (by omega) i;have e2:=sJ (p:=p) (i:=0) (j:=n) (by omega) j;rw[if_pos (by omega)]at e1 e2;rw[lJ e1,lJ e2];exact h _ _ (by omega) (by omega)
 obtain⟨a1,a2,a3,_⟩:=sK (nrem-n) n h1 up
 refine⟨_,kas_rev p 0 n,?_,cu _ _ _,by omega,by omega,a3⟩
 unfold kas_tail3
 rw[dM]
 rfl
theorem uz (hn:n+1<=nrem) (hz:nrem<=p.size) (h:kDn ky p (n+1)):
  ∃m p',kRun (kC ky) (kas_descPart n nrem p)=(m,p')/\p'.Perm p/\1<=m/\m<=nrem/\kUp ky p' m:=by
 obtain⟨p1,m,q,e,a2,a3,a4,a5⟩:=kt (nrem-(n+1)) p (n+1) 0 ⟨by omega,by omega,h,λi h1 h2=>by
  have:i=n+1-1:=by omega
  rw[this]⟩ (by omega)
 have hs:=dN a2
 unfold kas_descPart
 rw[dM,e]
 dsimp only
 by_cases c:q>0
 ·rw[if_pos c];have hr:=cu p1 (m-(q+1)) m;have hs2:=dN hr;have d:kDn ky (kas_rev p1 (m-(q+1)) m) m:=λi j hij hj=>by
   rw[lK (by omega) a5.eq,lK (by omega) a5.eq];exact a5.dn i j hij hj
  obtain⟨m',p',b1,b2,b3⟩:=uy (nrem:=nrem) a5.n1 (by omega) (by omega) d;exact⟨m',p',b1,b2.trans (hr.trans a2),b3⟩
 ·rw[if_neg c];obtain⟨m',p',b1,b2,b3⟩:=uy (p:=p1) (nrem:=nrem) a5.n1 (by omega) (by omega) a5.dn;exact⟨m',p',b1,b2.trans a2,b3⟩
theorem xW (h1:1<=nrem) (hz:nrem<=p.size):
  ∃m p',kRun (kC ky) (kas_count nrem p)=(m,p')/\p'.Perm p/\1<=m/\m<=nrem/\kUp ky p' m:=by
 obtain⟨a1,a2,a3,a4⟩:=sK (ky:=ky) (p:=p) (nrem-1) 1 (le_refl _) (λi j hij hj=>by
  have:i=j:=by omega
  subst this;exact Int.le_refl _)
 unfold kas_count
 rw[dM]
 generalize kRun (kC ky) (kas_asc p (nrem-1) 1)=n at a1 a2 a3 a4
 by_cases c:(n==nrem)=true
 ·rw[if_pos c];exact⟨n,p,rfl,.refl _,a1,by omega,a3⟩
 ·rw[if_neg c];have c':n≠nrem:=λq=>c (beq_iff_eq.mpr q);have a4:kG ky p n<kG ky p (n-1):=by
   rcases a4 with q|q
   ·omega
   ·exact q
  by_cases c2:n>1
  ·rw[if_pos c2];have e:kRun (kC ky) (KasT.ask (p.getD 0 0) (p.getD (n-1) 0) λc=>if c=true then KasT.ret (n,p)else kas_descPart n nrem (kas_rev p 0 n))=if kG ky p 0<kG ky p (n-1)then(n,p)else kRun (kC ky) (kas_descPart n nrem (kas_rev p 0 n)):=by
    show kRun (kC ky) (if decide (kG ky p 0<kG ky p (n-1))=true then KasT.ret (n,p)else kas_descPart n nrem (kas_rev p 0 n))=_;by_cases c3:kG ky p 0<kG ky p (n-1)
    ·rw[if_pos c3,if_pos (decide_eq_true c3)];rfl
    ·rw[if_neg c3,if_neg (by rw[decide_eq_true_eq];exact c3)]
   rw[e];by_cases c3:kG ky p 0<kG ky p (n-1)
   ·rw[if_pos c3];exact⟨n,p,rfl,.refl _,a1,by omega,a3⟩
   ·rw[if_neg c3];have eq:kEq ky p 0 n:=λi h1 h2=>by
     have x1:=a3 i (n-1) (by omega) (by omega);have x2:=a3 0 i (by omega) h2;omega
    have hr:=cu p 0 n;have hs:=dN hr;obtain⟨m',p',b1,b2,b3⟩:=uz (ky:=ky) (p:=kas_rev p 0 n) (n:=n) (nrem:=nrem) (by omega) (by omega) (λi j hij hj=>by
     rw[lK (by omega) eq,lK (by omega) eq];rcases Nat.lt_or_ge j n with r|r
     ·rw[eq i (by omega) (by omega),eq j (by omega) r];exact Int.le_refl _
     ·have:j=n:=by omega
      subst this;rcases Nat.lt_or_ge i j with r'|r'
      ·rw[eq i (by omega) r'];omega
      ·have:i=j:=by omega
       subst this;exact Int.le_refl _)
    exact⟨m',p',b1,b2.trans hr,b3⟩
  ·rw[if_neg c2];refine uz (by omega) hz λi j hij hj=>?_;have:n=1:=by omega
   subst this;rcases Nat.lt_or_ge i j with r|r
   ·have e1:i=0:=by omega
    have e2:j=1:=by omega
    subst e1 e2;exact Int.le_of_lt a4
   ·have:i=j:=by omega
    subst this;exact Int.le_refl _
theorem lL (up:kUp ky p k):∀ (f l r:Nat),l<=r->r<=k->r-l<=f->(∀i,i<l->kG ky p i<=kG ky p k)->(∀i,r<=i->i<k->kG ky p k<kG ky p i)->
  kRun (kC ky) (kas_place p k f l r)<=k/\(∀i,i<kRun (kC ky) (kas_place p k f l r)->kG ky p i<=kG ky p k)/\(∀i,kRun (kC ky) (kas_place p k f l r)<=i->i<k->kG ky p k<kG ky p i)
 |0,l,r,h1,h2,h3,a,b=>⟨by show l<=k;omega,a,λi hi hk=>b i (by have:l<=i:=hi;omega) hk⟩
 |f+1,l,r,h1,h2,h3,a,b=>by
  unfold kas_place;by_cases c:l≥r
  ·rw[if_pos c];exact⟨by show l<=k;omega,a,λi hi hk=>b i (by have:l<=i:=hi;omega) hk⟩
  ·rw[if_neg c];have e:kRun (kC ky) (KasT.ask (p.getD k 0) (p.getD ((l+r)/2) 0) λc=>if c=true then kas_place p k f l ((l+r)/2)else kas_place p k f ((l+r)/2+1) r)=if kG ky p k<kG ky p ((l+r)/2)then kRun (kC ky) (kas_place p k f l ((l+r)/2))else kRun (kC ky) (kas_place p k f ((l+r)/2+1) r):=by
    show kRun (kC ky) (if decide (kG ky p k<kG ky p ((l+r)/2))=true then kas_place p k f l ((l+r)/2)else kas_place p k f ((l+r)/2+1) r)=_;by_cases c3:kG ky p k<kG ky p ((l+r)/2)
    ·rw[if_pos c3,if_pos (decide_eq_true c3)]
    ·rw[if_neg c3,if_neg (by rw[decide_eq_true_eq];exact c3)]
   rw[e];by_cases c3:kG ky p k<kG ky p ((l+r)/2)
   ·rw[if_pos c3];exact lL up f l ((l+r)/2) (by omega) (by omega) (by omega) a λi hi hk=>by
     have:=up ((l+r)/2) i hi hk;omega
   ·rw[if_neg c3];exact lL up f ((l+r)/2+1) r (by omega) h2 (by omega) (λi hi=>by
     have:=up i ((l+r)/2) (by omega) (by omega);omega) b
theorem xX:∀ (f:Nat) (p:Array Nat) (k:Nat),kUp ky p k->k+f<=p.size->(kRun (kC ky) (kas_bin f p k)).Perm p/\kUp ky (kRun (kC ky) (kas_bin f p k)) (k+f)
 |0,p,k,h,_=>⟨.refl _,h⟩
 |f+1,p,k,h,hz=>by
  obtain⟨a1,a2,a3⟩:=lL h k 0 k (Nat.zero_le _) (le_refl _) (by omega) (λi hi=>by omega) (λi h1 h2=>by omega);have e:kRun (kC ky) (kas_bin (f+1) p k)=kRun (kC ky) (kas_bin f (bubble p k (k-kRun (kC ky) (kas_place p k k 0 k))) (k+1)):=dM _;rw[e];generalize kRun (kC ky) (kas_place p k k 0 k)=l at a1 a2 a3;have hp:(bubble p k (k-l)).Perm p:=bubble_perm _ _ _;have hs:=dN hp;have at':∀i,kG ky (bubble p k (k-l)) i=if i=l then kG ky p k else if l<i/\i<=k then kG ky p (i-1)else kG ky p i:=λi=>by
   have z:=getElem?_bubble (xs:=p) (src:=k) (by omega) (k-l) (by omega) i;rw[show k-(k-l)=l by omega]at z;by_cases c1:i=l
   ·rw[if_pos c1]at z⊢;exact lJ z
   ·rw[if_neg c1]at z⊢;by_cases c2:l<i/\i<=k
    ·rw[if_pos c2]at z⊢;exact lJ z
    ·rw[if_neg c2]at z⊢;exact lJ z
  obtain⟨b1,b2⟩:=xX f (bubble p k (k-l)) (k+1) (λi j hij hj=>by
   rw[at',at'];by_cases ci:i=l
   ·rw[if_pos ci];by_cases cj:j=l
    ·rw[if_pos cj];exact Int.le_refl _
    ·rw[if_neg cj,if_pos (by omega)];exact Int.le_of_lt (a3 (j-1) (by omega) (by omega))
   ·rw[if_neg ci];by_cases ci2:l<i/\i<=k
    ·rw[if_pos ci2,if_neg (by omega),if_pos (by omega)];exact h _ _ (by omega) (by omega)
    ·rw[if_neg ci2];by_cases cj:j=l
     ·rw[if_pos cj];exact a2 i (by omega)
     ·rw[if_neg cj];by_cases cj2:l<j/\j<=k
      ·rw[if_pos cj2];exact h _ _ (by omega) (by omega)
      ·rw[if_neg cj2];exact h _ _ hij (by omega)) (by omega)
  exact⟨b1.trans hp,by rw[show k+(f+1)=k+1+f by omega];exact b2⟩
theorem BM (h1:1<=n):(kRun (kC ky) (kas_sort n)).Perm (List.toArray (List.range n))/\kUp ky (kRun (kC ky) (kas_sort n)) n:=by
 obtain⟨m,p,e,a2,a3,a4,a5⟩:=xW (ky:=ky) (p:=List.toArray (List.range n)) h1 (by simp);have hs:=dN a2;have hz:(List.toArray (List.range n)).size=n:=by simp
 unfold kas_sort;rw[dM,e];dsimp only;by_cases c:m<n
 ·rw[if_pos c];have hm:max m 1=m:=by omega
  rw[hm];obtain⟨b1,b2⟩:=xX (n-m) p m a5 (by omega);rw[show m+(n-m)=n by omega]at b2;exact⟨b1.trans a2,b2⟩
 ·rw[if_neg c];have:m=n:=by omega
  subst this;exact⟨a2,a5⟩
end
def kIn {α:Type} (n:Nat) (Q:α->Prop):KasT α->Prop
 |.ret a=>Q a
 |.ask i j k=>i<n/\j<n/\∀b,kIn n Q (k b)
theorem eR {Q Q'} (h:∀a,Q a->Q' a):∀t:KasT α,kIn n Q t->kIn n Q' t
 |.ret a,z=>h a z
 |.ask _ _ k,z=>⟨z.1,z.2.1,λb=>eR h (k b) (z.2.2 b)⟩
theorem eU {f:α->KasT β}:∀t:KasT α,kIn n (λa=>kIn n Q (f a)) t->kIn n Q (t.bind f)
 |.ret _,z=>z
 |.ask _ _ k,z=>⟨z.1,z.2.1,λb=>eU (k b) (z.2.2 b)⟩
theorem cv [Decidable c] {t u:KasT α} (h:kIn n Q t) (h':kIn n Q u):kIn n Q (if c then t else u):=by grind
def kB (n:Nat) (p:Array Nat):Prop:=∀k,p.getD k 0<n
theorem gA (h0:0<n) (h:q.Perm p) (b:kB n p):kB n q:=λk=>by
 rw[Array.getD_eq_getD_getElem?];cases e:q[k]? with
 |none=>exact h0
 |some x=>
  obtain⟨j,hj,e2⟩:=Array.getElem_of_mem (h.mem_iff.mp (Array.mem_of_getElem? e));have z:=b j;rw[Array.getD_eq_getD_getElem?,Array.getElem?_eq_getElem hj,e2]at z;exact z
section
variable {n:Nat}
theorem sL (b:kB n p):∀ (f m:Nat),kIn n (λ_=>True) (kas_asc p f m)
 |0,_=>trivial
 |f+1,m=>⟨b _,b _,λc=>cv trivial (sL b f (m+1))⟩
theorem ku (h0:0<n):∀ (f:Nat) (p:Array Nat) (m q:Nat),kB n p->kIn n (λr=>kB n r.1) (kas_desc f p m q)
 |0,p,_,_,b=>b
 |f+1,p,m,q,b=>⟨b _,b _,λc=>cv (cv (ku h0 f _ _ _ (gA h0 (cu _ _ _) b)) (ku h0 f _ _ _ b)) ⟨b _,b _,λd=>cv b (ku h0 f _ _ _ b)⟩⟩
theorem uA (h0:0<n) (b:kB n p) (m r:Nat):kIn n (λz=>kB n z.2) (kas_tail3 m r p):=
 eU _ (eR (λ_ _=>gA h0 (cu _ _ _) b) _ (sL (gA h0 (cu _ _ _) b) _ _))
theorem uB (h0:0<n) (b:kB n p) (m r:Nat):kIn n (λz=>kB n z.2) (kas_descPart m r p):=
 eU _ (eR (λz bz=>cv (uA h0 (gA h0 (cu _ _ _) bz) _ _) (uA h0 bz _ _)) _ (ku h0 _ _ _ _ b))
theorem xY (h0:0<n) (b:kB n p) (r:Nat):kIn n (λz=>kB n z.2) (kas_count r p):=by
 unfold kas_count;refine eU _ (eR (λm _=>?_) _ (sL b _ _));refine cv ?_ (cv ⟨b _,b _,λc=>cv ?_ (uB h0 (gA h0 (cu _ _ _) b) _ _)⟩ (uB h0 b _ _))
 ·exact b
 ·exact b
theorem lM (b:kB n p) (k:Nat):∀ (f l r:Nat),kIn n (λ_=>True) (kas_place p k f l r)
 |0,_,_=>trivial
 |f+1,l,r=>by
  unfold kas_place;exact cv trivial ⟨b _,b _,λc=>cv (lM b k f _ _) (lM b k f _ _)⟩
theorem xZ (h0:0<n):∀ (f:Nat) (p:Array Nat) (k:Nat),kB n p->kIn n (λ_=>True) (kas_bin f p k)
 |0,_,_,_=>trivial
 |f+1,p,k,b=>eU _ (eR (λl _=>xZ h0 f _ _ (gA h0 (bubble_perm _ _ _) b)) _ (lM b k _ _ _))
theorem uC (h0:0<n):kIn n (λ_=>True) (kas_sort n):=by
 have b:kB n (List.toArray (List.range n)):=λk=>by
  rw[Array.getD_eq_getD_getElem?];by_cases h:k<n
  ·simp[h]
  ·simp[h,h0]
 unfold kas_sort;refine eU _ (eR (λz bz=>cv (xZ h0 _ _ _ bz) ?_) _ (xY h0 b n));exact trivial
end
theorem uD {ask} (ha:∀i j C,i<n->j<n->C (c i j) s->ask i j C s):
  ∀t:KasT α,kIn n (λ_=>True) t->Q (kRun c t) s->t.kasWp ask Q s
 |.ret _,_,h=>h
 |.ask i j k,z,h=>ha i j _ z.1 z.2.1 (uD ha (k (c i j)) (z.2.2 _) h)
end L2
namespace L2
open PySem PySem.W PyProof.Rows
section
variable {prog:Program} {w:World} {A:Around} {E:Value->Shared->Prop} {s:Shared}
def fL (c:Nat->Nat->Bool) (vs:List Value):List Value:=if vs.length<2 then vs else(kRun c (kas_sort vs.length)).toList.map λi=>vs.getD i .none
structure SortBy (prog:Program) (w:World) (A:Around) (s:Shared) (a:Addr) (vs:List Value) (κ:SortKind) (c:Nat->Nat->Bool):Prop where
 kd:∀h',(∀b o,b≠a->s.heap.get? b=some o->h'.get? b=some o)->2<=vs.length->∀ (Q:SortKind->Shared->Prop),Q κ {s with heap:=h'}->wpAny (model prog w) A (keyKind' vs.toArray) Q (λ_ _=>False) {s with heap:=h'}
 cp:∀h',(∀b o,b≠a->s.heap.get? b=some o->h'.get? b=some o)->∀i j,i<vs.length->j<vs.length->∀ (Q:Bool->Shared->Prop),Q (c i j) {s with heap:=h'}->wpAny (model prog w) A (keyLt' κ (vs.getD i .none) (vs.getD j .none)) Q (λ_ _=>False) {s with heap:=h'}
theorem x8 (ho:s.heap.get? a=some (seqObj "list" vs.toArray n)) (h64:vs.length<64) (B:SortBy prog w A s a vs κ c) (h:P (.done (.ret .none)) {s with heap:=sortedHeap s.heap a vs (fL c vs).toArray}):wpAny (model prog w) A (Builtin.«list.sort» ⟨[.ref a],[]⟩) P E s:=by
 have lt:a<s.heap.objs.size:=Heap.lt_size ho;obtain⟨m,hm⟩:∃m,(s.heap.update a (Obj.mapSeq λ_=>#[])).get? a=some (seqObj "list" #[] m):=⟨_,get?_update_seq ho λ_=>#[]⟩;have hL:(((s.heap.update a (Obj.mapSeq λ_=>#[])).push (seqObj "tuple" vs.toArray 0)).push (seqObj "list" #[] 0)).get? a=some (seqObj "list" #[] m):=
  Heap.get?_push_of_some _ (Heap.get?_push_of_some _ hm)
 have sz:vs.toArray.size=vs.length:=rfl;have z64:vs.length<=sizeLine:=by rw[sizeLine_eq];omega
 rw[list_sort_plain];refine wpAny_bind (listItems_at ho rfl (wpAny_bind (listUpdate_at ho rfl ?_ (by rw[sz];exact z64) (Nat.zero_le _))));refine wpAny_bind (seqEpoch_at hm rfl (wpAny_bind (wpAny_newTuple ?_ z64)));refine wpAny_bind (wpAny_newList (wpAny_holding ?_) (Nat.zero_le _));show wpAny (model prog w) A _ P E {s with heap:=((s.heap.update a (Obj.mapSeq λ_=>#[])).push (seqObj "tuple" vs.toArray 0)).push (seqObj "list" #[] 0)};dsimp only;rw[sz];by_cases q:vs.length<2
 ·rw[if_pos q,if_pos q];refine wpAny_bind (wpAny_pure ?_);rw[StateT.run_pure];refine wpAny_bind (wpAny_pure ?_);have e:(arrOf (SortSt.mk' general' (vs.toArray.zip vs.toArray) #[] 7 none)).map (·.2)=(fL c vs).toArray:=by
   unfold fL;rw[if_pos q];show(vs.toArray.zip vs.toArray).map (·.2)=vs.toArray;apply Array.toList_inj.mp;simp only[Array.toList_map,Array.toList_zip];exact List.map_snd_zip (le_refl _)
  dsimp only;rw[e];refine wpAny_bind (seqEpoch_at hL rfl (wpAny_bind (listUpdate_at hL rfl ?_ (Nat.zero_le _) (by unfold fL;rw[if_pos q];show vs.length<=_;omega))));simp only[bne_self_eq_false,Bool.false_eq_true,if_false];exact wpAny_pure h
 ·rw[if_neg q,if_neg q];have kp:∀b o,b≠a->s.heap.get? b=some o->(((s.heap.update a (Obj.mapSeq λ_=>#[])).push (seqObj "tuple" vs.toArray 0)).push (seqObj "list" #[] 0)).get? b=some o:=λb o hb ho=>
   Heap.get?_push_of_some _ (Heap.get?_push_of_some _ (by rw[Heap.get?_update_ne _ _ _ _ hb];exact ho))
  refine wpAny_bind (wpAny_mono (B.kd _ kp (by omega) (λκ' s'=>κ'=κ/\s'=_) ⟨rfl,rfl⟩) ?_ λ_ _ z=>z.elim);rintro κ' _ ⟨e0,rfl⟩;rw[e0];refine wpAny_bind (wpAny_mono (kat_run (E:=E) (ks:=vs) (vs:=vs) (κ:=κ) (Q:=λst' s'=>(arrOf st').map (·.2)=(fL c vs).toArray/\failedOf st'=none/\(fL c vs).length=vs.length/\s'=_) rfl (by omega) h64
   (G:=λp s'=>p=kRun c (kas_sort vs.length)/\s'=_) (λp st' s' a1 a2 a3 a4=>⟨?_,a3,?_,a4.2⟩) (uD (λi j C hi hj z=>B.cp _ kp i j hi hj C z) _ (uC (by omega)) ⟨rfl,rfl⟩)) ?_ λ_ _ z=>z)
  ·rw[kat_snds rfl a2,a4.1];unfold fL;rw[if_neg q]
  ·unfold fL;rw[if_neg q,length_map,<-a4.1,Array.length_toList,a1]
  ·rintro⟨⟨⟩,st'⟩ _ ⟨e1,e2,e3,rfl⟩;dsimp only;rw[e1];refine wpAny_bind (seqEpoch_at hL rfl (wpAny_bind (listUpdate_at hL rfl ?_ (Nat.zero_le _) ?_)))
   ·rw[e2];simp only[bne_self_eq_false,Bool.false_eq_true,if_false];exact wpAny_pure h
   ·show(fL c vs).length<=_;omega
theorem vS (hl:s.heap.IsList l vs.toArray) (h64:vs.length<64) (B:∀h':Heap,(∀b o,s.heap.get? b=some o->h'.get? b=some o)->SortBy prog w A.in1.in1 {s with heap:=h'} (s.heap.objs.size+1) vs κ c) (h:Q (.ref (s.heap.objs.size+1)) {s with heap:=sortedAll s.heap vs (fL c vs).toArray}):wpAny (model prog w) A (call (.builtin "sorted") [.ref l]) Q E s:=by
 have z64:vs.length<=sizeLine:=by rw[sizeLine_eq];omega
 refine Calls.call_function_entry kind_sorted plain_sorted entry_sorted (args_sorted1 _) ?_;unfold Builtin.«sorted»;refine wpAny_bind (m:=checkCount "sorted" 1 1 _) (wpAny_pure (wpAny_bind (collect_list hl (wpAny_bind (wpAny_newList ?_ z64)) z64)));have e:((s.heap.push (seqObj "list" #[] 0)).update s.heap.objs.size (Obj.mapSeq (·++vs.toArray))).objs.size=s.heap.objs.size+1:=by rw[Heap.size_update,size_push']
 have hn:(((s.heap.push (seqObj "list" #[] 0)).update s.heap.objs.size (Obj.mapSeq (·++vs.toArray))).push (seqObj "list" vs.toArray 0)).get? (s.heap.objs.size+1)=some (seqObj "list" vs.toArray 0):=by
  rw[<-e];exact Heap.get?_push_size _ rfl
 have kp:∀b o,s.heap.get? b=some o->(((s.heap.push (seqObj "list" #[] 0)).update s.heap.objs.size (Obj.mapSeq (·++vs.toArray))).push (seqObj "list" vs.toArray 0)).get? b=some o:=λb o z=>by
  have lt:=Heap.lt_size z;exact Heap.get?_push_of_some _ (by rw[Heap.get?_update_ne _ _ _ _ (Nat.ne_of_lt lt)];exact Heap.get?_push_of_some _ z)
 show wpAny _ _ _ _ _ {s with heap:=((s.heap.push (seqObj "list" #[] 0)).update s.heap.objs.size (Obj.mapSeq (·++vs.toArray))).push (seqObj "list" vs.toArray 0)};rw[e];refine wpAny_bind (wpAny_holding (wpAny_call_entry slot_list_sort ⟨_,hn,rfl⟩ entry_list_sort (x8 hn h64 (B _ kp) ⟨_,rfl,wpAny_pure ⟨_,rfl,h⟩⟩) (args_list_sort _)))
end
theorem x9:∀a:List Int,HT.lexLt a a=false
 |[]=>rfl
 |x::a=>by rw[HT.lexLt_cons,if_pos rfl];exact x9 a
theorem pf:∀a b:List Int,HT.lexLt a b=true->HT.lexLt b a=false
 |[],[],_=>rfl
 |[],_::_,_=>rfl
 |_::_,[],h=>by cases h
 |x::a,y::b,h=>by
  rw[HT.lexLt_cons]at h⊢;by_cases q:x=y
  ·rw[if_pos q]at h;rw[if_pos q.symm];exact pf a b h
  ·rw[if_neg q]at h;rw[if_neg (Ne.symm q)];have:=of_decide_eq_true h;exact decide_eq_false (by omega)
theorem lN:∀k j i:List Int,HT.lexLt k j=true->HT.lexLt i j=false->HT.lexLt k i=true
 |[],[],_,h,_=>by cases h
 |_::_,[],_,h,_=>by cases h
 |_,_::_,[],_,h=>by cases h
 |[],_::_,_::_,_,_=>rfl
 |x::k,y::j,z::i,h,g=>by
  rw[HT.lexLt_cons]at h g⊢;by_cases q:x=y
  ·rw[if_pos q]at h;by_cases r:z=y
   ·rw[if_pos r]at g;rw[if_pos (q.trans r.symm)];exact lN k j i h g
   ·rw[if_neg r]at g;have:=of_decide_eq_false g;rw[if_neg (by omega)];exact decide_eq_true (by omega)
  ·rw[if_neg q]at h;have h:=of_decide_eq_true h;by_cases r:z=y
   ·rw[if_neg (by omega)];exact decide_eq_true (by omega)
   ·rw[if_neg r]at g;have:=of_decide_eq_false g;rw[if_neg (by omega)];exact decide_eq_true (by omega)
theorem Fk (h:HT.lexLt a b=true) (g:HT.lexLt b c=true):HT.lexLt a c=true:=lN a b c h (pf b c g)
theorem ya:∀a b:List Int,HT.lexLt a b=false->HT.lexLt b a=false->a=b
 |[],[],_,_=>rfl
 |[],_::_,h,_=>by cases h
 |_::_,[],_,h=>by cases h
 |x::a,y::b,h,g=>by
  rw[HT.lexLt_cons]at h g;by_cases q:x=y
  ·rw[if_pos q]at h;rw[if_pos q.symm]at g;rw[q,ya a b h g]
  ·rw[if_neg q]at h;rw[if_neg (Ne.symm q)]at g;have:=of_decide_eq_false h;have:=of_decide_eq_false g;omega
theorem Fl {l:List Nat} (h:∀x,p x=true->q x=true) (hy:y∈l) (h1:q y=true) (h2:p y=false):l.countP p<l.countP q:=by
 induction l with
 |nil=>cases hy
 |cons a l ih=>
  have m:l.countP p<=l.countP q:=List.countP_mono_left λx _ z=>h x z;rcases mem_cons.mp hy with rfl|hy
  ·rw[List.countP_cons,List.countP_cons,h1,h2];simp;omega
  ·have:=ih hy;rw[List.countP_cons,List.countP_cons];have z:(if p a=true then 1 else 0)<=(if q a=true then 1 else 0):=by
    cases e:p a with
    |true=>rw[h a e];simp
    |false=>simp
   omega
def rk (n:Nat) (f:Nat->List Int) (i:Nat):Int:=(((List.range n).countP λk=>HT.lexLt (f k) (f i):Nat):Int)
theorem Dv (hi:i<n):HT.lexLt (f i) (f j)=kC (rk n f) i j:=by
 unfold kC rk;cases e:HT.lexLt (f i) (f j)with
 |true=>
  refine(decide_eq_true ?_).symm;have:=Fl (p:=λk=>HT.lexLt (f k) (f i)) (q:=λk=>HT.lexLt (f k) (f j)) (l:=List.range n) (λx h=>Fk h e) (List.mem_range.mpr hi) e (x9 _);omega
 |false=>
  refine(decide_eq_false ?_).symm;have:(List.range n).countP (λk=>HT.lexLt (f k) (f j))<=(List.range n).countP (λk=>HT.lexLt (f k) (f i)):=List.countP_mono_left λx _ h=>lN _ _ _ h e;omega
theorem lO (h:∀i j,i<n->j<n->c i j=c' i j):∀t:PySem.W.KasT α,kIn n (λ_=>True) t->kRun c t=kRun c' t
 |.ret _,_=>rfl
 |.ask i j k,z=>by
  show kRun c (k (c i j))=kRun c' (k (c' i j));rw[h i j z.1 z.2.1];exact lO h _ (z.2.2 _)
def sM (f:Nat->List Int) (i j:Nat):Bool:=HT.lexLt (f i) (f j)
theorem gO (f:Nat->List Int) (hn:1<=n):(kRun (sM f) (PySem.W.kas_sort n)).toList.Perm (List.range n)/\(kRun (sM f) (PySem.W.kas_sort n)).toList.Pairwise (λa b=>HT.lexLt (f b) (f a)=false):=by
 rw[lO (n:=n) (c:=sM f) (c':=kC (rk n f)) (λi j hi hj=>Dv hi) _ (uC hn)];obtain⟨h1,h2⟩:=BM (ky:=rk n f) hn;generalize kRun (kC (rk n f)) (PySem.W.kas_sort n)=p at h1 h2;have hp:p.toList.Perm (List.range n):=by simpa using h1.toList
 refine⟨hp,List.pairwise_iff_getElem.mpr λi j hi hj hij=>?_⟩;have hl:p.toList.length=n:=by rw[hp.length_eq,length_range]
 have hz:p.size=n:=by rw[<-hl,Array.length_toList]
 have z:=h2 i j (Nat.le_of_lt hij) (by omega);have e:∀k (hk:k<p.toList.length),p.getD k 0=p.toList[k]:=λk hk=>by
  have:k<p.size:=by omega
  simp[Array.getD,this]
 unfold kG at z;rw[e i hi,e j hj]at z;have m:∀k (hk:k<p.toList.length),p.toList[k]<n:=λk hk=>List.mem_range.mp (hp.mem_iff.mp (List.getElem_mem hk));rw[Dv (m j hj)];exact decide_eq_false (by omega)
def lP:D->Option (Option Nat×List Int)
 |.int i=>some (none,[i])
 |_=>none
def eE:List D->Option (List (Option Nat)×List Int)
 |[]=>some ([],[])
 |d::ds=>(lP d).bind λa=>(eE ds).bind λr=>some (a.1::r.1,a.2++r.2)
def qB:D->Option (List (Option Nat)×List Int)
 |.tup ds=>eE ds
 |_=>none
theorem vT (h:lP d=some (a,f)) (g:lP e=some (a,f)):d=e:=by
 cases d with
 |int i=>
  cases h;cases e with
  |int j=>cases g;rfl
  |_=>cases g
 |_=>cases h
def wid:Option Nat->Nat
 |none=>1
 |some n=>n
theorem gB (h:lP d=some (a,f)):f.length=wid a:=by
 cases d with
 |int i=>cases h;rfl
 |_=>cases h
theorem lQ:∀ {ds es:List D} {sh:List (Option Nat)} {f:List Int},eE ds=some (sh,f)->eE es=some (sh,f)->ds=es
 |[],[],_,_,_,_=>rfl
 |[],e::es,_,_,h,g=>by
  cases h;obtain⟨a,_,g⟩:=bind_some g;obtain⟨r,_,g⟩:=bind_some g;cases g
 |d::ds,[],_,_,h,g=>by
  cases g;obtain⟨a,_,h⟩:=bind_some h;obtain⟨r,_,h⟩:=bind_some h;cases h
 |d::ds,e::es,sh,f,h,g=>by
  obtain⟨⟨a,x⟩,h1,h⟩:=bind_some h;obtain⟨⟨r,y⟩,h2,h⟩:=bind_some h;cases h;obtain⟨⟨a',x'⟩,g1,g⟩:=bind_some g;obtain⟨⟨r',y'⟩,g2,g⟩:=bind_some g;injection g with g;injection g with ga gb;injection ga with ga1 ga2;dsimp only at ga1 ga2 gb;subst ga1 ga2;obtain⟨q1,q2⟩:=List.append_inj gb ((gB g1).trans (gB h1).symm);subst q1 q2;rw[vT h1 g1,lQ h2 g2]
def flt (d:D):List Int:=match qB d with
 |some (_,f)=>f
 |none=>[]
def fY (ds:List D):Prop:=∃sh,sh≠[]/\∀d∈ds,∃f,qB d=some (sh,f)
instance (ds:List D):Decidable (fY ds):=Classical.propDecidable _
def mZ (ds:List D):List D:=ds.mergeSort λa b=>!HT.lexLt (flt b) (flt a)
def qC:List D->Option (List D):=un1 λd=>(fW d).bind λds=>if ds.length<64/\fY ds then some (mZ ds)else none
theorem yb (h:fY ds) (ha:a∈ds) (hb:b∈ds) (e:flt a=flt b):a=b:=by
 obtain⟨sh,_,z⟩:=h;obtain⟨f,e1⟩:=z a ha;obtain⟨g,e2⟩:=z b hb;unfold flt at e;rw[e1,e2]at e;dsimp only at e;subst e;cases a with
 |tup as=>
  cases b with
  |tup bs=>rw[lQ (show eE as=_ from e1) (show eE bs=_ from e2)]
  |_=>cases e2
 |_=>cases e1
theorem jo (ds:List D):(mZ ds).Perm ds:=List.mergeSort_perm _ _
theorem qD (ds:List D):(mZ ds).Pairwise λa b=>HT.lexLt (flt b) (flt a)=false:=by
 refine(List.pairwise_mergeSort (le:=λa b=>!HT.lexLt (flt b) (flt a)) (λa b c h1 h2=>?_) (λa b=>?_) ds).imp λh=>by simpa using h
 ·simp only[Bool.not_eq_true']at h1 h2⊢;cases e:HT.lexLt (flt c) (flt a)with
  |false=>rfl
  |true=>rw[lN _ _ _ e h1]at h2;cases h2
 ·cases e:HT.lexLt (flt b) (flt a)with
  |false=>rfl
  |true=>rw[pf _ _ e];rfl
theorem ph (h:fY ds) (h1:rs.Perm ds) (h2:rs.Pairwise λa b=>HT.lexLt (flt b) (flt a)=false):rs=mZ ds:=
 List.Perm.eq_of_pairwise (le:=λa b=>HT.lexLt (flt b) (flt a)=false) (λa b ha hb x y=>yb h (h1.mem_iff.mp ha) ((jo ds).mem_iff.mp hb) (ya _ _ y x)) h2 (qD ds) (h1.trans (jo ds).symm)
theorem bQ {α:Type} (x:α):∀l:List α,(List.range l.length).map (λi=>l.getD i x)=l:=λl=>by
 apply List.ext_getElem
 ·simp
 grind
theorem qE (h:fY ds) (hn:1<=ds.length):(kRun (sM λi=>flt (ds.getD i .non)) (PySem.W.kas_sort ds.length)).toList.map (λi=>ds.getD i .non)=mZ ds:=by
 obtain⟨h1,h2⟩:=gO (λi=>flt (ds.getD i .non)) hn;refine ph h ?_ (List.pairwise_map.mpr h2);have:=h1.map λi=>ds.getD i .non;rwa [bQ]at this
section
variable {X:Cx} {pins:List (Addr×Obj)} {σ:St} {H:Hp} {s:Shared}
theorem yc:∀ {a b:List Int} (x y:List Int),a.length=b.length->HT.lexLt (a++x) (b++y)=if a=b then HT.lexLt x y else HT.lexLt a b
 |[],[],x,y,_=>by rw[if_pos rfl];rfl
 |[],_::_,_,_,h=>by cases h
 |_::_,[],_,_,h=>by cases h
 |u::a,v::b,x,y,h=>by
  rw[List.cons_append,List.cons_append,HT.lexLt_cons,HT.lexLt_cons,yc x y (Nat.succ.inj h)];by_cases q:u=v
  ·rw[if_pos q,if_pos q];by_cases r:a=b
   ·rw[if_pos r,if_pos (by rw[q,r])]
   ·rw[if_neg r,if_neg (λz=>r (List.cons.inj z).2)]
  ·rw[if_neg q,if_neg q,if_neg (λz=>q (List.cons.inj z).1)]
theorem lR (h:lP d=some z):okE d=true/\dep d<=1:=by
 cases d with
 |int i=>exact⟨rfl,Nat.zero_le _⟩
 |_=>cases h
theorem ye (I:Inv X pins σ H s) (hu:A.units+1<cLine) (h1:lP d=some (a,f)) (h2:lP e=some (a,g)) (ix:Is X.K H d x) (iy:Is X.K H e y) (rx:RelV x p) (ry:RelV y q):
  SeqAt.EqAt A s p q (decide (f=g))/\∀ (b:Bool) (Q:Bool->Shared->Prop),(b=true->a=none)->Q (HT.lexLt f g) s->wpAny (model X.prog X.w) A (oneLt' b p q) Q (λ_ _=>False) s:=by
 have eq:=xf I 1 A d e x y p q (lR h1).2 (by omega) (lR h1).1 (lR h2).1 ix iy rx ry
 cases d with
 |int i=>
  cases h1;cases e with
  |int j=>
   cases h2;refine⟨?_,λb Q hb hq=>?_⟩
   ·have z:eqD (.int i) (.int j)=decide ([i]=[j]):=by
     show(i==j)=_;by_cases c:i=j
     ·simp[c]
     ·simp[c]
    rw[<-z];exact eq
   ·cases(show x=.int i from ix);cases(show y=.int j from iy);obtain⟨t,rfl⟩:=rx;obtain⟨u,rfl⟩:=ry;have hq':Q (decide (i<j)) s:=by
     have z:HT.lexLt [i] [j]=decide (i<j):=by
      rw[HT.lexLt_cons];by_cases c:i=j
      ·rw[if_pos c];exact(decide_eq_false (by omega)).symm
      ·rw[if_neg c]
     rw[<-z];exact hq
    cases b with
    |true=>exact oneLt_int hq'
    |false=>exact PySem.W.kat_one _ _ (lt_int hq')
  |_=>cases h2
 |_=>cases h1
theorem n5 (I:Inv X pins σ H s) (hu:A.units+1<cLine):∀ {ds es:List D} {sh:List (Option Nat)} {f g:List Int} {xs ys:List V} {ps qs:List Value} (i:Nat),eE ds=some (sh,f)->eE es=some (sh,g)->IsL X.K H ds xs->IsL X.K H es ys->Vals xs ps->Vals ys qs->
  (b=true->i=0->sh.head?=some none)->fin=false->Q (HT.lexLt f g) s->PySem.W.KatLex X.prog X.w A b fin Q (ps.zip qs) i s
 |[],[],sh,f,g,xs,ys,ps,qs,i,h1,h2,l1,l2,r1,r2,hb,hf,hq=>by
  cases h1;cases h2;cases(show xs=[]from l1);cases(show ys=[]from l2);cases r1;cases r2;rw[hf];exact hq
 |[],e::es,sh,f,g,xs,ys,ps,qs,i,h1,h2,l1,l2,r1,r2,hb,hf,hq=>by
  cases h1;obtain⟨a,_,h2⟩:=bind_some h2;obtain⟨r,_,h2⟩:=bind_some h2;cases h2
 |d::ds,[],sh,f,g,xs,ys,ps,qs,i,h1,h2,l1,l2,r1,r2,hb,hf,hq=>by
  cases h2;obtain⟨a,_,h1⟩:=bind_some h1;obtain⟨r,_,h1⟩:=bind_some h1;cases h1
 |d::ds,e::es,sh,f,g,xs,ys,ps,qs,i,h1,h2,l1,l2,r1,r2,hb,hf,hq=>by
  obtain⟨⟨a,f1⟩,h3,h1⟩:=bind_some h1;obtain⟨⟨s1,f2⟩,h4,h1⟩:=bind_some h1;cases h1;obtain⟨⟨a',g1⟩,h5,h2⟩:=bind_some h2;obtain⟨⟨s2,g2⟩,h6,h2⟩:=bind_some h2;injection h2 with h2;injection h2 with h7 h8;injection h7 with h9 h10;dsimp only at h8 h9 h10;subst h8 h9 h10;obtain⟨x,xr,rfl,ix,l1⟩:=l1;obtain⟨y,yr,rfl,iy,l2⟩:=l2;cases r1 with
  |cons rx r1=>
   cases r2 with
   |cons ry r2=>
    obtain⟨c1,c2⟩:=ye I hu h3 h5 ix iy rx ry;dsimp only at hq;rw[yc f2 g2 ((gB h3).trans (gB h5).symm)]at hq;rw[List.zip_cons_cons];refine PySem.W.kat_cons (c1 X.prog X.w _ _ ?_);by_cases q:f1=g1
    ·rw[if_pos q]at hq;rw[decide_eq_true q];exact PySem.W.kat_yes (n5 I hu (i+1) h4 h6 l1 l2 r1 r2 (λ_ z=>absurd z (by omega)) hf hq)
    ·rw[if_neg q]at hq;rw[decide_eq_false q];refine PySem.W.kat_no (c2 _ _ (λz=>?_) hq);rw[and_eq_true,beq_iff_eq]at z;have:=hb z.1 z.2;injection this
end
section
variable {X:Cx} {a:Expr} {p pos:Pos}
theorem eV {as:List α} {bs:List β} (h:Paired F as bs) (hi:i<as.length) (x:α) (y:β):F (as.getD i x) (bs.getD i y):=by
 obtain⟨z,e,f⟩:=ii h (i:=i) (x:=as[i]) (getElem?_eq_getElem hi);grind
theorem fZ {as:List α} {bs:List β} (h:Paired F as bs) (x:α) (y:β):∀ {l:List Nat},(∀i∈l,i<as.length)->Paired F (l.map λi=>as.getD i x) (l.map λi=>bs.getD i y)
 |[],_=>.nil
 |i::l,z=>.cons (eV h (z i mem_cons_self) x y) (fZ h x y λj hj=>z j (mem_cons_of_mem _ hj))
theorem lS (h:qB d=some z):∃ds,d=.tup ds/\eE ds=some z:=by
 cases d with
 |tup ds=>exact⟨ds,rfl,h⟩
 |_=>cases h
def kindT (sh:List (Option Nat)):Bool:=decide (sh.head?=some none)
theorem BN {σ:St} (I:Inv X pins σ H s) (hu:A.units+1<cLine) (il:IsL X.K H ds xs) (r:Vals xs us) (hne:sh≠[]) (hs:∀d∈ds,∃f,qB d=some (sh,f)) {a:Addr} (ha:s.heap.objs.size<=a) (h1:Heap) (k1:∀b o,s.heap.get? b=some o->h1.get? b=some o):SortBy X.prog X.w A {s with heap:=h1} a us (tuples' (kindT sh)) (sM λi=>flt (ds.getD i .non)):=by
 have keep:∀h',(∀b o,b≠a->h1.get? b=some o->h'.get? b=some o)->Inv X pins σ H {s with heap:=h'}:=λh' k=>I.kept (t':=s.toks) λb o q=>k b o (Nat.ne_of_lt (lt_of_lt_of_le (Heap.lt_size q) ha)) (k1 b o q);have len1:=il.len;have len2:=r.length;refine⟨λh' k h2 Q hq=>?_,λh' k i j hi hj Q hq=>?_⟩
 ·have J:=keep h' k;-- the first items
  have first:∀ {ds:List D} {xs:List V} {us:List Value},IsL X.K H ds xs->Vals xs us->(∀d∈ds,∃f,qB d=some (sh,f))->∃fs,PySem.W.KatTups h' us fs/\fs.length=us.length/\∀v∈fs,∀M,PySem.W.Looks M h' (typeOf v) (if kindT sh then .type "int"else .type "tuple"):=by
   intro ds;induction ds with
   |nil=>
    intro xs us il r _;cases(show xs=[]from il);cases r;exact⟨[],trivial,rfl,λ_ z=>nomatch z⟩
   |cons d ds ih=>
    intro xs us il r hs;obtain⟨x,xr,rfl,ix,il⟩:=il;cases r with
    |cons rx r=>
     obtain⟨fs,q1,q2,q3⟩:=ih il r λe he=>hs e (mem_cons_of_mem _ he);obtain⟨f,e⟩:=hs d mem_cons_self;obtain⟨is,rfl,e⟩:=lS e;obtain⟨b,ys,rfl,t,l⟩:=ix;cases rx;obtain⟨its,rv,⟨o,p1,p2,n,p3⟩,_⟩:=J.tuple t;cases is with
     |nil=>cases e;exact absurd rfl hne
     |cons i0 is=>
      obtain⟨⟨a0,f1⟩,e1,e⟩:=bind_some e;obtain⟨⟨s1,f2⟩,e2,e⟩:=bind_some e;cases e;obtain⟨y,yr,rfl,iy,l⟩:=l;cases rv with
      |@cons _ v _ vr ry rv=>
       refine⟨v::fs,⟨⟨b,o,_,n,rfl,p1,p2,p3,rfl⟩,q1⟩,by rw[length_cons,length_cons,q2],λv' hv M=>?_⟩;rcases mem_cons.mp hv with rfl|hv
       ·cases i0 with
        |int i=>
         cases e1;cases(show y=.int i from iy);obtain⟨tk,rfl⟩:=ry;rw[show kindT (none::s1)=true from rfl,if_pos rfl];exact PySem.W.Looks.of_pure rfl
        |_=>cases e1
       ·exact q3 v' hv M
  obtain⟨fs,q1,q2,q3⟩:=first il r hs
  refine PySem.W.kat_kind (T:=if kindT sh then .type "int"else .type "tuple") q1 (by omega) (λv hv=>q3 v hv _) (by cases kindT sh<;>decide) ?_;have e:((if kindT sh then Value.type "int"else .type "tuple") !=Value.type "tuple")=kindT sh:=by cases kindT sh<;>decide
  rw[e];exact hq
 ·have J:=keep h' k;have hi':i<ds.length:=by omega
  have hj':j<ds.length:=by omega
  have ix:=eV il.paired hi' .non .non;have iy:=eV il.paired hj' .non .non;have rx:=eV r (i:=i) (by omega) .non .none;have ry:=eV r (i:=j) (by omega) .non .none;obtain⟨f,e1⟩:=hs (ds.getD i .non) (by rw[List.getD_eq_getElem?_getD,getElem?_eq_getElem hi'];exact List.getElem_mem hi');obtain⟨g,e2⟩:=hs (ds.getD j .non) (by rw[List.getD_eq_getElem?_getD,getElem?_eq_getElem hj'];exact List.getElem_mem hj');have hq:Q (HT.lexLt (flt (ds.getD i .non)) (flt (ds.getD j .non))) {s with heap:=h'}:=hq;generalize ds.getD i .non=d at ix e1 hq;generalize ds.getD j .non=e at iy e2 hq;generalize xs.getD i .non=x at ix rx;generalize xs.getD j .non=y at iy ry;generalize us.getD i .none=u at rx;generalize us.getD j .none=v at ry;unfold flt at hq;rw[e1,e2]at hq;dsimp only at hq;obtain⟨as,rfl,e1⟩:=lS e1;obtain⟨bs,rfl,e2⟩:=lS e2;obtain⟨b1,x1,rfl,t1,l1⟩:=ix;obtain⟨b2,x2,rfl,t2,l2⟩:=iy;cases rx;cases ry;obtain⟨it1,rv1,⟨o1,p1,_,n1,p3⟩,_⟩:=J.tuple t1;obtain⟨it2,rv2,⟨o2,w1,_,n2,w3⟩,_⟩:=J.tuple t2;have sz:∀ {ds:List D} {sh:List (Option Nat)} {f:List Int},eE ds=some (sh,f)->ds.length=sh.length:=λ{ds}=>by
   induction ds with
   |nil=>intro sh f h;cases h;rfl
   |cons d ds ih=>
    intro sh f h;obtain⟨z,_,h⟩:=bind_some h;obtain⟨⟨r1,r2⟩,h2,h⟩:=bind_some h;cases h;rw[length_cons,length_cons,ih h2]
  have z1:it1.length=sh.length:=by rw[<-rv1.length,<-l1.len,sz e1]
  have z2:it2.length=sh.length:=by rw[<-rv2.length,<-l2.len,sz e2]
  refine PySem.W.kat_lt p1 p3 w1 w3 (n5 J hu 0 e1 e2 l1 l2 rv1 rv2 (λhb _=>of_decide_eq_true hb) (decide_eq_false ?_) hq);show¬it1.length<it2.length;omega
def Fm (K:Frag):List V->Hp->VK->Prop:=λvs H Q=>∃l ds xs,vs=[.ref l]/\SqL K H l xs/\IsL K H ds xs/\ds.length<64/\fY ds/\
 ∀ (q:Addr) (ls:List Nat),H q=none->(∀i∈ls,i<ds.length)->ls.map (λi=>ds.getD i .non)=mZ ds->Q (.ref q) (upd H q (.lst (ls.map λi=>xs.getD i .non)))
theorem pw_short {α:Type} {R}:∀ {l:List α},l.length<2->l.Pairwise R
 |[],_=>.nil
 |[_],_=>List.pairwise_singleton _ _
 |_::_::l,h=>absurd h (by rw[length_cons,length_cons];omega)
theorem sO (hr:Room k X.A):cL X (.builtin "sorted") (Fm X.K):=by
 intro pins s σ H xs us Q I r h;obtain⟨l,ds,ys,rfl,hx,il,h64,hs,q⟩:=h;obtain⟨u,rfl,ru⟩:=fS r;cases ru;obtain⟨its,rv,pl,hz⟩:=I.list hx;have hl:=rv.length;have hd:=il.len;obtain⟨sh,hne,hs'⟩:=id hs;refine vS (κ:=tuples' (kindT sh)) (c:=sM λi=>flt (ds.getD i .non)) pl.isList (by omega) (λh' k'=>BN I (by have:=hr.un;show X.A.units+1+1+1<_;omega) il rv hne hs' (Nat.le_succ _) h' k') ?_;obtain⟨ls,e1,e2,e3⟩:∃ls:List Nat,fL (sM λi=>flt (ds.getD i .non)) its=ls.map (λi=>its.getD i .none)/\(∀i∈ls,i<ds.length)/\ls.map (λi=>ds.getD i .non)=mZ ds:=by
  unfold fL;by_cases c:its.length<2
  ·rw[if_pos c];refine⟨List.range its.length,(bQ _ _).symm,λi hi=>by have:=List.mem_range.mp hi;omega,?_⟩;rw[show its.length=ds.length by omega,bQ];refine ph hs (.refl _) ?_;exact pw_short (by omega)
  ·rw[if_neg c];refine⟨_,rfl,λi hi=>?_,?_⟩
   ·have:=List.mem_range.mp ((gO _ (by omega)).1.mem_iff.mp hi);omega
   ·rw[show its.length=ds.length by omega];exact qE hs (by omega)
 rw[e1];obtain⟨e,he⟩:=sortedAll_at s.heap its (ls.map λi=>its.getD i .none).toArray;have fr:H (s.heap.objs.size+1)=none:=I.hok.fresh (Nat.le_succ _);have hln:(ls.map λi=>ys.getD i V.non).length<64:=by
  have:=congrArg List.length e3;rw[length_map,(jo ds).length_eq]at this;rw[length_map];omega
 refine⟨.ref _,_,I.laid (t':=s.toks) (λb o q=>sortedAll_old q) (Nat.le_succ _) (o:=.lst (ls.map λi=>ys.getD i V.non)) ⟨?_,ls.map (λi=>its.getD i .none),e,fZ rv .non .none (λi hi=>by have:=e2 i hi;omega),by simpa using he⟩,rfl,q _ ls fr e2 e3⟩;have:(64:Nat)<=sizeLine:=by decide
 omega
theorem yf (hr:Room k X.A) (hg:Gl X "sorted") (hm:X.mg "sorted"=none) (ha:PX X [a] fa) (hs:starEach [a] X.env=[(false,eval a X.env)]):
  PF X (.Call (.Name "sorted" p) [a] [] pos) (λY=>(fa Y).bind qC):=λO Y=>(fT (sO hr) hg hm xU (ha O Y) (by decide) (by decide) (by rw[hs];rfl) rfl).imp λσ H Q ⟨E,ds,q,k⟩=>by
 obtain⟨as,e1,q⟩:=bind_some q
 refine⟨E,as,e1,λvs H1 s1 il=>?_⟩
 obtain⟨c,rfl,q2⟩:=bF q
 obtain⟨xs,q3,q4⟩:=bind_some q2
 obtain⟨⟨h64,hs⟩,q7⟩:=aw q4
 subst q7
 obtain⟨v,rfl,h⟩:=is1 il
 obtain⟨l,ys,rfl,t,l2⟩:=c8 q3 h
 refine⟨l,xs,ys,rfl,msk_le.seq t,l2.full,h64,hs,λb ls hb hls e=>k b _ H1 s1 hb ?_⟩
 rw[<-e]
 exact IsL.of (fZ l2.paired .non .non hls)
def cM (ds:List D):Option (List D):=match jO ds with
 |some r=>some r
 |none=>qC ds
theorem iP (h:jO ds=some r):cM ds=some r:=by unfold cM;rw[h]
theorem BO (h:jO ds=none) (g:qC ds=some r):cM ds=some r:=by unfold cM;rw[h];exact g
theorem yg (hr:Room k X.A) (hg:Gl X "sorted") (hm:X.mg "sorted"=none) (ha:PX X [a] fa) (hs:starEach [a] X.env=[(false,eval a X.env)]):
  PF X (.Call (.Name "sorted" p) [a] [] pos) (λY=>(fa Y).bind cM):=λO Y=>by
 have h1:=BL (p:=p) (pos:=pos) hg hm ha hs O Y
 have h2:=yf (p:=p) (pos:=pos) hr hg hm ha hs O Y
 dsimp only at h1 h2⊢
 cases e:fa Y with
 |none=>rw[e]at h1;exact h1
 |some ds=>
  rw[e]at h1 h2;cases e2:jO ds with
  |some r=>
   have z:(some ds).bind cM=(some ds).bind jO:=by show cM ds=jO ds;rw[iP e2,e2]
   rw[z];exact h1
  |none=>
   have z:(some ds).bind cM=(some ds).bind qC:=by show cM ds=qC ds;unfold cM;rw[e2]
   rw[z];exact h2
end
section
variable {X:Cx} {a:Expr} {p p2 pos pos2:Pos}
theorem lT:∀ (l:List Value) (k:Int),(∀ (i:Nat) (v:Value),l[i]?=some v->∃t,v=Value.int (k+(i:Int)) t)->Vals ((List.range l.length).map λ(i:Nat)=>V.int (k+(i:Int))) l
 |[],_,_=>.nil
 |v::l,k,h=>by
  rw[length_cons,List.range_succ_eq_map,List.map_cons,List.map_map];obtain⟨t,e⟩:=h 0 v rfl;refine .cons ⟨t,by simpa using e⟩ ?_;have:=lT l (k+1) λi w q=>by
   obtain⟨t,e⟩:=h (i+1) w (by simpa using q);exact⟨t,by rw[e];congr 1;omega⟩
  have e2:((List.range l.length).map λ(i:Nat)=>V.int (k+1+(i:Int)))=(List.range l.length).map ((λ(i:Nat)=>V.int (k+(i:Int)))∘Nat.succ):=by
   apply List.map_congr_left;intro i _;show V.int _=V.int _;congr 1;simp;omega
  rw[<-e2];exact this
def tLr (ta:TA):TE:=λσ H Q=>ta σ H λvs H1=>∃j:Int,vs=[.int j]/\inR j/\j<1000000/\∀q,H1 q=none->Q (.ref q) (upd H1 q (.lst ((List.range j.toNat).map λ(i:Nat)=>V.int (i:Int))))
theorem BP (hc:X.calm=true) (hg:Gl X "list") (hm:X.mg "list"=none) (hg2:Gl X "range") (hm2:X.mg "range"=none) (ha:PA X [a] ta) (hs:starEach [a] X.env=[(false,eval a X.env)]):
  PE X (.Call (.Name "list" p) [.Call (.Name "range" p2) [a] [] pos2] [] pos) (tLr ta):=by
 intro pins s σ H Q I h
 refine wpAny_Call_Name_kw (hZ I hg hm IB (PyProof.Rows.callWith_type1 ?_ rfl rfl))
 show wpAny _ _ (spliced ((false,eval (.Call (.Name "range" p2) [a] [] pos2) X.env)::[])) _ _ s
 refine Calls.spliced_cons ?_
 refine wpAny_Call_Name_kw (hZ I hg2 hm2 boot_range (PyProof.Rows.callWith_type1 (thn (ha pos2 pins s σ H _ I h) λus s1 ⟨vs,H1,I1,r1,q1⟩=>?_) (by rw[hs];rfl) rfl))
 obtain⟨j,rfl,hj,hj2,q⟩:=q1
 obtain⟨u,rfl,ru⟩:=fS r1
 obtain⟨t,rfl⟩:=ru
 have hj':-(2^62)<=j/\j<2^62:=hj
 refine call_range_1 (Calls.spliced_nil ?_)
 have up:∀d o,s1.heap.get? d=some o->(s1.heap.push {cls:=.type "range",data:=.fields #[.int 0 s1.toks,.int j t,.int 1 (s1.toks+1)]}).get? d=some o:=λd o e=>Heap.get?_push_of_some _ e
 have I2:Inv X pins σ H1 {s1 with heap:=s1.heap.push {cls:=.type "range",data:=.fields #[.int 0 s1.toks,.int j t,.int 1 (s1.toks+1)]},toks:=s1.toks+1+1}:=I1.kept up
 have hn:Builtin.Range.rangeSize 0 j 1=(j.toNat:Nat):=by rw[rangeSize_one];split<;>omega
 refine call_list_range (n:=j.toNat) (I1.ok.hd hc) (IsRange.new ..) (small_one (by omega) (by omega) hj'.1 hj'.2) hn (by omega) λg tk acc c k hgS hi=>?_
 have fr:H1 (s1.heap.push {cls:=.type "range",data:=.fields #[.int 0 s1.toks,.int j t,.int 1 (s1.toks+1)]}).objs.size=none:=I2.hok.fresh (le_refl _)
 refine⟨.ref _,_,I2.laid (t':=tk) (o:=.lst ((List.range j.toNat).map λ(i:Nat)=>V.int (i:Int))) k (le_refl _) ⟨?_,acc.toList,c,?_,by simpa using hgS⟩,rfl,q _ fr⟩
 ·rw[length_map,length_range,sizeLine_eq];omega
 ·have:=lT acc.toList 0 λi v e=>by
   obtain⟨t,z⟩:=hi.2 i v (by rw[<-Array.getElem?_toList];exact e);exact⟨t,by rw[z];congr 1;omega⟩
  rw[Array.length_toList,hi.1]at this;simpa using this
def lrD:List D->Option (List D):=un1 λd=>(intD d).bind λj=>if inR j/\j<1000000 then some (jh 0 j.toNat)else none
theorem BQ (hc:X.calm=true) (hg:Gl X "list") (hm:X.mg "list"=none) (hg2:Gl X "range") (hm2:X.mg "range"=none) (ha:PX X [a] fa) (hs:starEach [a] X.env=[(false,eval a X.env)]):
  PF X (.Call (.Name "list" p) [.Call (.Name "range" p2) [a] [] pos2] [] pos) (λY=>(fa Y).bind lrD):=λO Y=>(BP hc hg hm hg2 hm2 (ha O Y) hs).imp λσ H Q ⟨E,ds,q,k⟩=>by
 obtain⟨as,e1,q⟩:=bind_some q
 refine⟨E,as,e1,λvs H1 s1 il=>?_⟩
 obtain⟨c,rfl,q2⟩:=bF q
 obtain⟨j,q3,q4⟩:=bind_some q2
 obtain⟨h1,h2⟩:=aw q4
 subst h2
 obtain⟨v,rfl,h⟩:=is1 il
 cases intD_some q3
 refine⟨j,by rw[show v=.int j from h],h1.1,h1.2,λb hb=>k b _ H1 s1 hb ?_⟩
 have e:jh 0 j.toNat=((List.range j.toNat).map λ(i:Nat)=>(i:Int)).map D.int:=by unfold jh;rw[List.map_map];apply List.map_congr_left;intro i _;simp
 have e2:((List.range j.toNat).map λ(i:Nat)=>V.int (i:Int))=((List.range j.toNat).map λ(i:Nat)=>(i:Int)).map V.int:=by rw[List.map_map];rfl
 rw[e,e2]
 exact lI _
end
section
variable {X:Cx} {e:Expr} {pos:Pos}
theorem n6:∀ (bs:List Bool),((List.range bs.length).any λi=>bs.getD i false)=bs.any (λz=>z)
 |[]=>rfl
 |b::bs=>by
  rw[length_cons,List.range_succ_eq_map,List.any_cons,List.any_map,List.any_cons,<-n6 bs];rfl
theorem call_any (hc:X.calm=true):cL X (.builtin "any") (λxs H Q=>∃ (p:Addr) (bs:List Bool),xs=[.ref p]/\SqL X.K H p (bs.map V.bl)/\Q (.bl (bs.any (λz=>z))) H):=by
 intro pins s σ H xs us Q I r h;obtain⟨l,bs,rfl,hl,q⟩:=h;obtain⟨u,rfl,ru⟩:=fS r;cases ru;obtain⟨its,rv,pl,hz⟩:=I.list hl;have eb:=lv rv;subst eb;have hL:=pl.isList;have hlt:l<s.heap.objs.size:=by obtain⟨_,e,_⟩:=hL;exact Heap.lt_size e
 refine call_any_walk (wpAny_pyIter_list hL ?_);refine⟨s.heap.objs.size,[s.heap.objs.size,l],[s.heap.objs.size],_,_,_,λi=>bs.getD i false,rfl,Walks.list (A:=X.A.in1) (I.ok.hd hc) _ l (Nat.ne_of_lt hlt) (bs.map Value.bool).toArray,
  ⟨⟨_,Heap.get?_push_size _ rfl,rfl,rfl⟩,hL.push _⟩,λi v s' Q' E' hP hQ=>?_,λh' tk hk=>?_⟩
 ·have hP':(bs.map Value.bool)[i]?=some v:=by simpa using hP
  rw[getElem?_map]at hP';cases e:bs[i]? with
  |none=>rw[e]at hP';cases hP'
  |some b=>
   rw[e]at hP';cases hP';have e':bs.getD i false=b:=by rw[List.getD_eq_getElem?_getD,e];rfl
   dsimp only at hQ;rw[e']at hQ;exact wpAny_truthy_bool hQ
 ·have e:((List.range (bs.map Value.bool).toArray.size).any λi=>bs.getD i false)=bs.any (λz=>z):=by
   rw[size_toArray,length_map];exact n6 bs
  rw[e];exact⟨.bl _,H,I.kept (t':=tk) λb o ho=>hk b o (λhm=>by rw[mem_singleton.mp hm]at ho;exact Nat.lt_irrefl _ (Heap.lt_size ho)) (Heap.get?_push_of_some _ ho),rfl,q⟩
def m6:List D->Option D:=un1 λd=>(fW d).bind λds=>(vD ds).bind λbs=>some (.bl (bs.any (λz=>z)))
theorem rn_any:RnD X.K (λxs H Q=>∃ (p:Addr) (bs:List Bool),xs=[.ref p]/\SqL X.K H p (bs.map V.bl)/\Q (.bl (bs.any (λz=>z))) H) m6:=λO H xs ds d Q hd l e k=>by
 obtain⟨c,rfl,e⟩:=bF e;obtain⟨es,e1,e2⟩:=bind_some e;obtain⟨bs,e3,e4⟩:=bind_some e2;cases e4;obtain⟨v,rfl,h⟩:=is1 l;obtain⟨p,ys,rfl,q,l2⟩:=c8 e1 h;rw[oK e3 l2]at q;exact⟨p,bs,rfl,msk_le.seq q,k _ H (Same.refl _) rfl⟩
def Dw:List V->Hp->VK->Prop:=λxs H Q=>∃b:Bool,xs=[.bl b]/\Q (.int (if b then 1 else 0)) H
theorem call_intB:cL X (.type "int") Dw:=by
 intro pins s σ H xs us Q I r h;obtain⟨b,rfl,q⟩:=h;obtain⟨u,rfl,ru⟩:=fS r;cases(show u=Value.bool b from ru);refine call_int_bool ?_;exact⟨.int _,H,I.kept (t':=s.toks+1) λb o ho=>ho,⟨_,rfl⟩,q⟩
def qF:List D->Option D:=un1 λd=>d.asB.bind λb=>some (.int (if b then 1 else 0))
theorem rn_intB:RnD X.K Dw qF:=λO H xs ds d Q hd l e k=>by
 obtain⟨c,rfl,e⟩:=bF e;obtain⟨b,e1,e2⟩:=bind_some e;cases e2;cases asB_some e1;obtain⟨v,rfl,h⟩:=is1 l;cases(show v=.bl b from h);exact⟨b,rfl,k _ H (Same.refl _) rfl⟩
end
def insL (k:Nat) {α:Type} (l:List α) (x:α):List α:=l.take k++x::l.drop k
theorem DeepL.appR {K} (h2:DeepL K M H es ys C):∀ {ds:List D} {xs:List V} {A:List Addr},DeepL K M H ds xs A->DeepL K M H (ds++es) (xs++ys) (A++C)
 |[],xs,A,h=>by obtain⟨rfl,rfl⟩:=h;exact h2
 |d::ds,xs,A,⟨x,r,A1,A2,e1,e2,g1,g2⟩=>by
  subst e1 e2;exact⟨x,r++ys,A1,A2++C,rfl,List.append_assoc ..,g1,DeepL.appR h2 g2⟩
theorem DeepL.cutAt {K}:∀ {ds:List D} {xs:List V} {A:List Addr} (k:Nat),DeepL K M H ds xs A->∃A1 A2,A=A1++A2/\DeepL K M H (ds.take k) (xs.take k) A1/\DeepL K M H (ds.drop k) (xs.drop k) A2
 |ds,xs,A,0,h=>⟨[],A,rfl,⟨rfl,rfl⟩,h⟩
 |[],xs,A,k+1,h=>by obtain⟨rfl,rfl⟩:=h;exact⟨[],[],rfl,⟨rfl,rfl⟩,⟨rfl,rfl⟩⟩
 |d::ds,xs,A,k+1,⟨x,r,A1,A2,e1,e2,g1,g2⟩=>by
  subst e1 e2;obtain⟨B1,B2,e,q1,q2⟩:=DeepL.cutAt k g2;subst e;exact⟨A1++B1,B2,(List.append_assoc ..).symm,⟨x,_,A1,B1,rfl,rfl,g1,q1⟩,q2⟩
theorem IG (k:Nat):lsW (insL k):=λ{K M H ds xs A A1 d v} h q nd=>by
 obtain⟨B1,B2,rfl,q1,q2⟩:=DeepL.cutAt k h;have q3:DeepL K M H (d::ds.drop k) (v::xs.drop k) (A1++B2):=⟨v,_,A1,B2,rfl,rfl,q,q2⟩;refine⟨B1++(A1++B2),DeepL.appR q3 q1,?_,λb hb=>?_⟩;all_goals grind
theorem IsL.takeD {K}:∀ {ds:List D} {xs:List V} (k:Nat),IsL K M ds xs->IsL K M (ds.take k) (xs.take k)/\IsL K M (ds.drop k) (xs.drop k)
 |ds,xs,0,h=>⟨rfl,h⟩
 |[],xs,k+1,h=>by cases(show xs=[]from h);exact⟨rfl,rfl⟩
 |d::ds,xs,k+1,⟨x,r,e,g1,g2⟩=>by
  subst e;obtain⟨q1,q2⟩:=IsL.takeD k g2;exact⟨⟨x,_,rfl,g1,q1⟩,q2⟩
theorem IH (k:Nat):lsI (insL k):=λh q=>(IsL.takeD k h).1.app ⟨_,_,rfl,q,(IsL.takeD k h).2⟩
theorem Vals.ins (k:Nat) (r:Vals xs us) (ru:RelV y u):Vals (insL k xs y) (insL k us u):=(r.take k).append (.cons ru (r.drop k))
def BR:V->List V->Hp->VK->Prop:=λx vs H Q=>∃ (l:Addr) (xs:List V) (i:Int) (k:Nat) (y:V),x=.ref l/\vs=[.int i,y]/\i=(k:Int)/\H l=some (.lst xs)/\k<=xs.length/\xs.length<sizeLine/\Q .non (upd H l (.lst (insL k xs y)))
theorem BS (its:List Value) (x:Int) (k:Nat) (u:Value) (hx:x=(k:Int)) (hk:k<=its.length):(its.toArray.extract 0 (if x<0 then(x+((its.toArray.size:Nat):Int)).toNat else min x.toNat its.toArray.size)).push u++its.toArray.extract (if x<0 then(x+((its.toArray.size:Nat):Int)).toNat else min x.toNat its.toArray.size)=(insL k its u).toArray:=by grind [insL]
theorem vU:MtM X "list.insert" BR:=by
 intro pins s σ H x vs v us Q I rx rv h;obtain⟨l,xs,i,k,y,rfl,rfl,hi,hH,hk,hz,q⟩:=h;cases rx;cases rv with
 |cons r1 r2=>
 obtain⟨u,rfl,ru⟩:=(show Vals [y] _ from r2).one;obtain⟨t,rfl⟩:=r1;obtain⟨z,its,n,r,hl,e⟩:=I.lstM hH;have hf:Builtin.List.listFitsIndex i=true:=by
  have:sizeLine<2^63:=by decide
  unfold Builtin.List.listFitsIndex;simp only[and_eq_true,decide_eq_true_eq];omega
 refine call_meets F.slot_list_insert ⟨_,e,rfl⟩ F.entry_list_insert (F.args_list_insert_3 _ _ _) (AutoSeq1.list_insert_list_int_val_1 l its.toArray n i t u (by simp[hf]) (by rw[size_toArray];omega)) ⟨e,?_⟩;refine⟨.non,_,I.lset (its':=insL k its u) hH e ?_ (r.ins k ru) ?_,rfl,q⟩
 ·exact BS its i k u hi (by omega)
 ·unfold insL;rw[length_append,length_cons,List.length_take,List.length_drop];omega
section
variable {X:Cx} {e:Expr} {pos:Pos}
def qG (n:Nat) (d:D):Option Nat:=match d with
 |.int i=>if 0<=i/\i<=(n:Int)then some i.toNat else none
 |_=>none
theorem jp (h:qG n d=some k):d=.int (k:Int)/\k<=n:=by
 unfold qG at h;grind
def pi (i:Nat) (fk R:Vv->Option D):Ev->Option Out:=λY=>(fR Y i).bind λw=>(fk (shv Y)).bind λy=>(qG w.2.length y).bind λk=>(lfO (R (shv Y))).bind λd=>
 if w.2.length+1<big then some (.nx (Y.set i (some (newCat w.1 (.deep,d),.lst (insL k w.2 d)))))else none
theorem vV (i:Nat) (hk:PP X ek fk) (h:PP X e R) (hN:X.N[i]?=some x) (hv:Vis X.env.scope x) (hd:(x==("__debug__":Str))=false) (hcd:(x==("__classdict__":Str))=false) (hst:starEach [ek,e] X.env=(false,eval ek X.env)::starEach [e] X.env) (hst2:starEach [e] X.env=(false,eval e X.env)::starEach [] X.env) (hline:(apos.endLine==cpos.line)=true):
  PR X (.Expr (.Call (.Attribute (.Name x px) "insert" apos) [ek,e] [] cpos) pos) (pi i fk R):=λB O Y=>
 (dF (iF PySem.F.plainAttrs_list PySem.F.slot_list_insert PySem.F.type_list_insert vU (bO hN hv hd hcd) (bi (hk O (shv Y)) (bi (h O (shv Y)) pa_nil hst2) hst) rfl (by rw[hst,hst2];rfl) hline hst (by rw[hst2];rfl))).imp λEn σ H ⟨E,o,q,k⟩=>by
 obtain⟨⟨c,ds⟩,q1,q⟩:=bind_some q
 obtain⟨y,q2,q⟩:=bind_some q
 obtain⟨j,q3,q⟩:=bind_some q
 obtain⟨d,q4,q⟩:=bind_some q
 obtain⟨hz,q⟩:=aw q
 subst q
 obtain⟨h0,hc0⟩:=cr q1
 obtain⟨d',p5,p6⟩:=bind_some q4
 obtain⟨lf,p7⟩:=aw p6
 subst p7
 obtain⟨ey,hj⟩:=jp q3
 subst ey
 obtain⟨a,xs0,e1,r3,_⟩:=E.ownAt h0 hc0
 refine⟨.ref a,e1,.inl ⟨rfl,_,SqL.of r3⟩,E.viewS,_,q2,λyv H1 s1 iy=>?_⟩
 cases(show yv=.int (j:Int)from iy)
 have E1:=E.grow s1
 refine⟨E1.viewS,d',p5,λv H2 s2 iv=>?_⟩
 have E2:=E1.grow s2
 have E3:=E2.moreS iv
 have ex:extS d'=(.deep,d'):=by unfold extS;rw[if_pos lf]
 rw[ex]at E3
 obtain⟨a',xs,e2,r4,hl,O2,E4,s4⟩:=E3.change (insL j) (IG j) (IH j) h0 hc0
 rw[e1]at e2
 cases e2
 exact⟨a,xs,_,j,v,rfl,rfl,rfl,r4,by rw[<-hl];exact hj,by rw[eB,<-hl];exact Nat.lt_of_succ_lt hz,k σ _ O2 (s1.msk.trans (s2.msk.trans s4)) E4⟩
end
section
variable {X:Cx} {e:Expr} {pos:Pos}
end
def qH (k:Nat) {α:Type} (l:List α) (_:α):List α:=l.eraseIdx k
theorem DeepL.del {K}:∀ {ds:List D} {xs:List V} {A:List Addr} (k:Nat),DeepL K M H ds xs A->∃A',A'.Sublist A/\DeepL K M H (ds.eraseIdx k) (xs.eraseIdx k) A'
 |[],xs,A,k,h=>by obtain⟨rfl,rfl⟩:=h;exact⟨[],List.Sublist.refl _,⟨rfl,rfl⟩⟩
 |d::ds,xs,A,0,⟨x,r,A1,A2,e1,e2,g1,g2⟩=>by
  subst e1 e2;exact⟨A2,List.sublist_append_right _ _,g2⟩
 |d::ds,xs,A,k+1,⟨x,r,A1,A2,e1,e2,g1,g2⟩=>by
  subst e1 e2;obtain⟨B,s,q⟩:=DeepL.del k g2;exact⟨A1++B,List.Sublist.append_left s _,⟨x,_,A1,B,rfl,rfl,g1,q⟩⟩
theorem IsL.del {K}:∀ {ds:List D} {xs:List V} (k:Nat),IsL K M ds xs->IsL K M (ds.eraseIdx k) (xs.eraseIdx k)
 |[],xs,k,h=>by cases(show xs=[]from h);exact rfl
 |d::ds,xs,0,⟨x,r,e,g1,g2⟩=>by subst e;exact g2
 |d::ds,xs,k+1,⟨x,r,e,g1,g2⟩=>by subst e;exact⟨x,_,rfl,g1,IsL.del k g2⟩
theorem Dy (k:Nat):lsW (qH k):=λ{K M H ds xs A A1 d v} h q nd=>by
 obtain⟨A',s,q1⟩:=DeepL.del k h;grind [lsW,qH]
theorem Dz (k:Nat):lsI (qH k):=λh _=>IsL.del k h
section
variable {X:Cx} {e:Expr} {pos:Pos}
def yh (i:Nat) (R:Vv->Option D):Ev->Option Out:=λY=>(fR Y i).bind λw=>(R (shv Y)).bind λy=>(qG w.2.length y).bind λk=>
 if k<w.2.length/\w.2.length<big then some (.nx (Y.set i (some (newCat w.1 (.deep,y),.lst (w.2.eraseIdx k)))))else none
theorem Fo (i:Nat) (h:PP X e R) (hN:X.N[i]?=some x) (hv:Vis X.env.scope x) (hd:(x==("__debug__":Str))=false) (hcd:(x==("__classdict__":Str))=false) (hst:starEach [e] X.env=(false,eval e X.env)::starEach [] X.env) (hline:(apos.endLine==cpos.line)=true):
  PR X (.Expr (.Call (.Attribute (.Name x px) "pop" apos) [e] [] cpos) pos) (yh i R):=λB O Y=>
 (dF (iF PySem.F.plainAttrs_list PySem.F.slot_list_pop PySem.F.type_list_pop qm (bO hN hv hd hcd) (bi (h O (shv Y)) pa_nil hst) rfl (by rw[hst];rfl) hline hst rfl)).imp λEn σ H ⟨E,o,q,k⟩=>by
 obtain⟨⟨c,ds⟩,q1,q⟩:=bind_some q
 obtain⟨y,q2,q⟩:=bind_some q
 obtain⟨j,q3,q⟩:=bind_some q
 obtain⟨hz,q⟩:=aw q
 subst q
 obtain⟨h0,hc0⟩:=cr q1
 obtain⟨ey,hj⟩:=jp q3
 subst ey
 obtain⟨a,xs0,e1,r3,_⟩:=E.ownAt h0 hc0
 refine⟨.ref a,e1,.inl ⟨rfl,_,SqL.of r3⟩,E.viewS,_,q2,λyv H1 s1 iy=>?_⟩
 cases(show yv=.int (j:Int)from iy)
 have E1:=E.grow s1
 have E3:=E1.moreS (d:=.int (j:Int)) (v:=.int (j:Int)) rfl
 have ex:extS (.int (j:Int))=(.deep,.int (j:Int)):=rfl
 rw[ex]at E3
 obtain⟨a',xs,e2,r4,hl,O2,E4,s4⟩:=E3.change (qH j) (Dy j) (Dz j) h0 hc0
 rw[e1]at e2
 cases e2
 have hb:big<2^63:=by rw[<-eB];decide
 have hz1:j<xs.length:=by rw[<-hl];exact hz.1
 have hz2:xs.length<big:=by rw[<-hl];exact hz.2
 generalize big=bg at hb hz2
 exact⟨a,xs,_,j,xs[j],rfl,rfl,r4,by omega,by omega,PySem.StrLaws.seqIndex_nonneg (by omega) (by omega),getElem?_eq_getElem hz1,k σ _ O2 (s1.msk.trans s4) E4⟩
end
section
variable {K:Frag} {B:Bs} {O:Addr->Bool} {σ:St} {H:Hp} {Y:Ev}
end
section
variable {X:Cx} {e:Expr} {pos:Pos}
theorem lU (h:gN Y i=some ds):Y[i]?=some (some (.deep,.lst ds)):=by
 obtain⟨⟨c,ds'⟩,p1,p2⟩:=bind_some h;obtain⟨p3,p4⟩:=aw p2;have p3:c=.deep:=p3;have p4:ds'=ds:=p4;subst p3 p4;exact(cr p1).1
end
section
variable {X:Cx} {e:Expr} {pos:Pos}
noncomputable def gpF (i j:Nat) (R:Vv->Option D):Ev->Option Out:=λY=>(gN Y i).bind λds=>(gN Y j).bind λes=>(R (vw Y)).bind λy=>(qG es.length y).bind λk=>(es[k]?).bind λd=>
 if i≠j/\lfD d=true/\es.length<big/\ds.length+1<big then some (.nx ((Y.set j (some (.deep,.lst (es.eraseIdx k)))).set i (some (.deep,.lst (ds++[d])))))else none
theorem II (i j:Nat) (h:PP X e R) (hN:X.N[i]?=some x) (hv:Vis X.env.scope x) (hd:(x==("__debug__":Str))=false) (hcd:(x==("__classdict__":Str))=false) (hN2:X.N[j]?=some y) (hv2:Vis X.env.scope y) (hd2:(y==("__debug__":Str))=false) (hcd2:(y==("__classdict__":Str))=false) (hst:starEach [e] X.env=(false,eval e X.env)::starEach [] X.env) (hline:(apos.endLine==cpos.line)=true) (hline2:(apos2.endLine==cpos2.line)=true):
  PR X (.Expr (.Call (.Attribute (.Name x px) "append" apos) [.Call (.Attribute (.Name y py) "pop" apos2) [e] [] cpos2] [] cpos) pos) (gpF i j R):=λB O Y=>
 (dF (iF PySem.F.plainAttrs_list PySem.F.slot_list_append PySem.F.type_list_append je (bO hN hv hd hcd)
  (bi (iF PySem.F.plainAttrs_list PySem.F.slot_list_pop PySem.F.type_list_pop qm (bO hN2 hv2 hd2 hcd2) (bi (h noO (vw Y)) pa_nil hst) rfl (by rw[hst];rfl) hline2 hst rfl) pa_nil rfl) rfl rfl hline rfl rfl)).imp λEn σ H ⟨E,o,q,k⟩=>by
 obtain⟨ds,q1,q⟩:=bind_some q
 obtain⟨es,q3,q⟩:=bind_some q
 obtain⟨yd,q4,q⟩:=bind_some q
 obtain⟨n,q5,q⟩:=bind_some q
 obtain⟨d,q6,q⟩:=bind_some q
 obtain⟨⟨nij,ld,hz1,hz2⟩,q⟩:=aw q
 subst q
 have h0:=lU q1
 have h00:=lU q3
 obtain⟨ey,hn⟩:=jp q5
 subst ey
 have hne:j≠i:=λz=>nij z.symm
 obtain⟨a,xs0,g1,g2,_⟩:=E.ownAt h0 (by decide)
 refine⟨.ref a,g1,.inl ⟨rfl,_,SqL.of g2⟩,?_⟩
 obtain⟨l,zs,e1,e2,hl,ol,bl⟩:=E.ownAt h00 (by decide)
 refine⟨.ref l,e1,.inl ⟨rfl,_,SqL.of e2⟩,E.view,_,q4,λyv3 H3 s3 iy3=>?_⟩
 cases(show yv3=.int (n:Int)from iy3)
 have E3:=E.grow s3
 have E4:=E3.moreS (d:=.int (n:Int)) (v:=.int (n:Int)) rfl
 have ex:extS (.int (n:Int))=(.deep,.int (n:Int)):=rfl
 rw[ex]at E4
 obtain⟨l',zs',f1,f2,f3,O5,E5,s5⟩:=E4.change (qH n) (Dy n) (Dz n) h00 (by decide)
 rw[e1]at f1
 cases f1
 have hb:big<2^63:=by rw[<-eB];decide
 have hn1:n<zs'.length:=by rw[<-f3];exact(List.getElem?_eq_some_iff.mp q6).1
 have hn2:zs'.length<big:=by rw[<-f3];exact hz1
 have iv:Is X.K H3 d zs'[n]:=by
  obtain⟨F,h1,_⟩:=E3.fp;obtain⟨w,w1,a',xs',A',z1,z2,z3,lD⟩:=h1 j _ h00;rw[e1]at w1;cases w1;cases z1;rw[f2]at z2;cases z2;obtain⟨x',x1,x2⟩:=(DeepL.is (M':=H3) (NL.of msk_le) es zs' A' (λ_ _ _ h=>h) lD).get q6;rw[getElem?_eq_getElem hn1]at x1;cases x1;exact x2
 have nc:newCat Cat.deep (Cat.deep,D.int (n:Int))=.deep:=rfl
 rw[nc]at E5
 have hi5:(Y.set j (some (Cat.deep,D.lst (qH n es (.int (n:Int))))))[i]?=some (some (.deep,.lst ds)):=by rw[List.getElem?_set_ne hne];exact h0
 have iv5:Is X.K (msk O5 (upd H3 l (.lst (qH n zs' (.int (n:Int)))))) d zs'[n]:=by
  refine Is.nl (NL.trans (λc o hc hh=>?_) E5.nl) d _ ld iv;have:c≠l:=λz=>by
   subst z;rw[f2]at hc;cases hc;exact hh (.inl ⟨_,rfl⟩)
  rw[ah this];exact hc
 have E6:=E5.moreS iv5
 have ex6:extS d=(.deep,d):=if_pos ld
 rw[ex6]at E6
 have hil:i<(Y.set j (some (Cat.deep,D.lst (qH n es (.int (n:Int)))))).length:=(List.getElem?_eq_some_iff.mp hi5).1
 obtain⟨a',xs',k1,k2,k3,O7,E7,s7⟩:=E6.change fK sA sD hi5 (by decide)
 rw[g1]at k1
 cases k1
 refine⟨l,zs',_,n,zs'[n],rfl,rfl,f2,by omega,by omega,PySem.StrLaws.seqIndex_nonneg (by omega) (by omega),getElem?_eq_getElem hn1,?_⟩
 exact⟨a,xs',zs'[n],rfl,rfl,k2,by rw[eB,<-k3];exact Nat.lt_of_succ_lt hz2,k σ _ O7 (s3.msk.trans (s5.trans s7)) E7⟩
end
def whF (c:Vv->Option Bool) (F:Ev->Option Out):Nat->Ev->Option Out
 |0,_=>none
 |n+1,Y=>(c (vw Y)).bind λb=>if b=true then(F Y).bind λo=>match o with
  |.nx Y'=>whF c F n Y'
  |.ct Y'=>whF c F n Y'
  |.bk Y'=>some (.nx Y')
  |.rt s=>some (.rt s)else some (.nx Y)
def wlF (c:Vv->Option Bool) (F:Ev->Option Out):Ev->Option Out:=whF c F 400
section
variable {X:Cx} {pos:Pos}
theorem PT.ex {ι:Type} {t:ι->TT} (h:∀z,PT X c (t z)):PT X c (λσ H Q=>∃z,t z σ H Q):=λpins s σ H D I ⟨z,q⟩=>h z pins s σ H D I q
theorem yi (hp:PassesOwn (model X.prog X.w) X.A X.env X.xe) (hc:PQ X c fc) (hb:PRs X body F):PR X (.While c body [] pos) (wlF fc F):=λB O Y=>
 (wF hp (PT.ex λz:Vv=>hc noO z) (PSs.ex λz:(Addr->Bool)×Ev=>hb B z.1 z.2)).imp λEn σ H ⟨E,o,q,k⟩=>by
 refine⟨λm σ' H'=>∃O' Y',whF fc F m Y'=some o/\EnvOk X.K B O' σ' H' Y'/\Same (msk O H) (msk O' H'),⟨400,O,Y,q,E,Same.refl _⟩,?_⟩;rintro m σ1 H1 ⟨O1,Y1,q1,E1,s1⟩;cases m with
 |zero=>cases q1
 |succ n=>
  obtain⟨b,q2,q3⟩:=bind_some (show((fc (vw Y1)).bind λb=>if b=true then(F Y1).bind λo=>match o with
   |.nx Y'=>whF fc F n Y'
   |.ct Y'=>whF fc F n Y'
   |.bk Y'=>some (.nx Y')
   |.rt s=>some (.rt s)else some (.nx Y1))=some o from q1)
  refine⟨vw Y1,E1.view,b,q2,λH2 s2=>?_⟩;cases b with
  |false=>
   rw[if_neg Bool.false_ne_true]at q3;cases q3;rw[if_neg Bool.false_ne_true];exact k σ1 H2 O1 (s1.trans s2.msk) (E1.grow s2)
  |true=>
   rw[if_pos rfl]at q3;rw[if_pos rfl];obtain⟨o1,q4,q5⟩:=bind_some q3;refine⟨λσ' H'=>∃O' Y',whF fc F n Y'=some o/\EnvOk X.K B O' σ' H' Y'/\Same (msk O H) (msk O' H'),λσ' H' h=>⟨n,Nat.lt_succ_self n,h⟩,(O1,Y1),E1.grow s2,o1,q4,?_⟩;have s3:=s1.trans s2.msk;cases o1 with
   |nx Y2=>exactλσ' H' O' s' E'=>⟨O',Y2,q5,E',s3.trans s'⟩
   |ct Y2=>exactλσ' H' O' s' E'=>⟨O',Y2,q5,E',s3.trans s'⟩
   |bk Y2=>
    cases q5;exactλσ' H' O' s' E'=>k σ' H' O' (s3.trans s') E'
   |rt s=>
    cases q5;exactλv H' r=>k v H' r
end
def Stl (M M1:Hp):Prop:=∀b u,M b=some u->M1 b=some u\/∃o kvs,u=.dK kvs/\M1 b=some (.frz o u)
theorem Stl.rd (s:Stl M M1) (h:Rd M a u):Rd M1 a u:=by
 rcases h with h|⟨o,h⟩
 ·rcases s _ _ h with h|⟨o,_,_,h⟩
  ·exact .inl h
  ·exact .inr ⟨o,h⟩
 ·rcases s _ _ h with h|⟨_,_,z,_⟩
  ·exact .inr ⟨o,h⟩
  ·cases z
theorem Stl.sq {K} (s:Stl M M1) (h:SqL K M a xs):SqL K M1 a xs:=h.imp s.rd id
theorem Stl.sqT {K} (s:Stl M M1) (h:SqT K M a xs):SqT K M1 a xs:=h.imp s.rd id
mutual
theorem Is.stl {K:Frag} {H H':Hp} (s:Stl H H'):∀ (d:D) (v:V),Is K H d v->Is K H' d v
 |.non,_,h=>h
 |.bl _,_,h=>h
 |.int _,_,h=>h
 |.str _,_,h=>h
 |.ty _,_,h=>h
 |.adr _,_,h=>h
 |.tup ds,_,⟨a,xs,e,q,l⟩=>⟨a,xs,e,s.sqT q,IsL.stl s ds xs l⟩
 |.lst ds,_,⟨a,xs,e,q,l⟩=>⟨a,xs,e,s.sq q,IsL.stl s ds xs l⟩
 |.obj _ _ ds,_,⟨a,Ca,dx,fs,e,c,q,z,l⟩=>⟨a,Ca,dx,fs,e,c,(s _ _ q).elim id (λ⟨_,_,z,_⟩=>nomatch z),z,IsL.stl s ds _ l⟩
 |.dct _ ds,_,⟨a,kvs,e,q,z,l⟩=>⟨a,kvs,e,s.rd q,z,IsL.stl s ds _ l⟩
theorem IsL.stl {K:Frag} {H H':Hp} (s:Stl H H'):∀ (ds:List D) (xs:List V),IsL K H ds xs->IsL K H' ds xs
 |[],_,h=>h
 |d::ds,_,⟨x,r,e,h,l⟩=>⟨x,r,e,Is.stl s d x h,IsL.stl s ds r l⟩
end
theorem BU (o:Obj) (e:H a=some (.dK kvs)):Stl H (upd H a (.frz o (.dK kvs))):=λb u h=>by
 by_cases hb:b=a
 ·subst hb;rw[e]at h;cases h;exact .inr ⟨o,kvs,rfl,ai⟩
 ·exact .inl (by rw[ah hb];exact h)
theorem BV (s:Stl H H1):Stl (msk O H) (msk O H1):=by simp_all [Hp,Stl,msk]
section
variable {X:Cx} {pins:List (Addr×Obj)} {σ:St} {H:Hp} {s:Shared} {a:Addr} {u w:HO} {kvs:List (Key×V)}
def DkO (kvs:List (Key×V)) (u:HO):Prop:=u=.dK kvs\/∃o,u=.frz o (.dK kvs)
def IJ (H₀:Hp) (a:Addr):Prop:=∀o,H₀ a=some o->(∀b u,o≠.frz b u)/\(∀xs,o≠.tup xs)/\∀ps,o≠.tbl ps
theorem Inv.noSt (I:Inv X pins σ H s) (e:H a=some (.dK kvs)):IJ X.H₀ a:=λo h=>by
 refine⟨λb u z=>?_,λxs z=>?_,λps z=>?_⟩
 ·subst z;rw[I.base.frzs a b u h]at e;cases e
 ·subst z;rw[I.base.tups a xs h]at e;cases e
 ·subst z;obtain⟨m,q⟩:=I.base.tbls a ps h;rw[q]at e;cases e
theorem Inv.reset (I:Inv X pins σ H s) (e:H a=some u) (hu:DkO kvs u) (h0:IJ X.H₀ a) (new:ObjOk X.prog X.w (upd H a w) s.heap a w):Inv X pins σ (upd H a w) s:=by
 have ne:∀b,H b=none->b≠a:=λb h z=>by subst z;rw[e]at h;cases h
 have n1:∀b xs,H b=some (.tup xs)->b≠a:=λb xs h z=>by
  subst z;rw[e]at h;cases h;rcases hu with z|⟨_,z⟩<;>cases z
 have n2:∀b y,H b=some (.own y)->b≠a:=λb y h z=>by
  subst z;rw[e]at h;cases h;rcases hu with z|⟨_,z⟩<;>cases z
 refine⟨I.ok,I.os,I.bare,⟨I.base.keep,I.base.slot,λb o q n x=>?_,I.base.there,λb xs q=>?_,λb o st q=>?_,λb ps q=>?_⟩,I.loc,I.cell,?_,λx c q=>?_,λp hp=>?_,λb o q=>?_,I.len⟩
 ·have:=I.base.free b o q n x;rw[ah (ne b this)];exact this
 ·by_cases z:b=a
  ·subst z;exact absurd rfl ((h0 _ q).2.1 xs)
  ·rw[ah z];exact I.base.tups b xs q
 ·by_cases z:b=a
  ·subst z;exact absurd rfl ((h0 _ q).1 o st)
  ·rw[ah z];exact I.base.frzs b o st q
 ·by_cases z:b=a
  ·subst z;exact absurd rfl ((h0 _ q).2.2 ps)
  ·rw[ah z];exact I.base.tbls b ps q
 ·rw[ah (ne _ I.free)];exact I.free
 ·rw[ah (ne _ (I.freeC x c q))];exact I.freeC x c q
 ·obtain⟨p1,p2,p3⟩:=I.pin p hp;exact⟨p1,by rw[ah (ne _ p2)];exact p2,p3⟩
 ·by_cases z:b=a
  ·subst z;rw[ai]at q;cases q;exact new
  ·rw[ah z]at q;refine(I.hok b o q).stay (λ_ _ _ r=>r) (λc r=>?_) (λc xs r=>?_)
   ·rw[ah (n2 c b r)];exact r
   ·rw[ah (n1 c xs r)];exact r
end
def vW:Key->D
 |.inl n=>.int n
 |.inr x=>.str x
theorem Fp {K} (k:Key):Is K M (vW k) (kV k):=by cases k<;>rfl
def Itk (a:Addr) (o:Obj) (kvs:List (Key×V)):It:=
 ⟨λi H=>H a=some (.frz o (.dK kvs))/\i<kvs.length,λi H x H'=>H'=H/\∃p,kvs[i]?=some p/\x=kV p.1,λi H=>H a=some (.frz o (.dK kvs))/\kvs.length<=i⟩
theorem DA (ok:HOk P w H h) (e:H a=some (.frz o (.dK kvs))) (hd:o.data=.dict es ep):∃vs,KV kvs vs/\h.DictAt (bh P w) a vs ep:=by
 obtain⟨e1,_,_,vs,rel,o',es',ep',e2,x1,x2,x3⟩:=ok a _ e;rw[e1]at e2;cases e2;rw[hd]at x2;cases x2;exact⟨vs,rel,o,es,e1,x1,hd,x3⟩
theorem KV.at (r:KV kvs vs):∀ {i:Nat} {p:Key×V},kvs[i]?=some p->∃u,vs[i]?=some (p.1,u):=by
 induction r with
 |nil=>intro i p h;cases i<;>cases h
 |@cons a b _ _ h _ ih=>
  intro i p q;cases i with
  |zero=>cases q;exact⟨b.2,by show some b=some (a.1,b.2);rw[h.1]⟩
  |succ i=>exact ih q
theorem BW (h:(bh P w).is k v=true):RelV (kV k) v:=by
 rcases keyIs_shape (show keyIs k v=true from h)with⟨i,t,rfl,rfl⟩|⟨x,t,rfl,rfl⟩
 ·exact⟨t,rfl⟩
 ·exact⟨t,rfl⟩
theorem BX {P:Program} {w:World} {K:Frag} {tg:Expr} (a it:Addr) {o:Obj} {kvs:List (Key×V)} {es:Array DictEntry} {ep:Nat} (hd:o.data=.dict es ep):Turn P w K tg (Itk a o kvs) [it] it (λi h=>h.IsKeyIter it a i kvs.length ep) where
 mem:=by simp
 obj:=λi h st b hb=>by
  have e:b=it:=by simpa using hb
  subst e;obtain⟨o,e,c,d⟩:=st;exact⟨o,e,λv z=>by rw[d]at z;cases z⟩
 keep:=λi h h' st k=>by
  obtain⟨o,e,r⟩:=st;exact⟨o,k it (by simp) o e,r⟩
 item:=by
  intro X hP hw hK hc i pins s σ H E I hf st hg;subst hP hw hK;obtain⟨hg,hi⟩:=hg;obtain⟨vs,rel,da⟩:=DA I.hok hg hd;obtain⟨u,hu⟩:=rel.at (getElem?_eq_getElem hi);obtain⟨f0,f1,f2,f3,f4,f5⟩:=hf it (by simp);rw[rel.length]at st;refine wpAny_pyNext_dict_item st da hu λkey h' hk st' sb=>?_;have I1:Inv X pins σ H {s with heap:=h'}:=I.turned (t':=s.toks) (λb o hb e=>(sb.2 b hb).trans e) f0 f1 f3 f4 f5;obtain⟨o2,e,c,d⟩:=id st';exact⟨key,rfl,tY (s:={s with heap:=h'}) e c d (by decide) ⟨_,H,I1,BW hk,⟨rfl,_,getElem?_eq_getElem hi,rfl⟩,by rw[rel.length];exact st',λb hb=>(hf b hb).1⟩⟩
 done:=by
  intro X hP hw hK hc i pins s σ H E I hf st hg;subst hP hw hK;obtain⟨hg,hi⟩:=hg;obtain⟨vs,rel,da⟩:=DA I.hok hg hd;obtain⟨f0,f1,f2,f3,f4,f5⟩:=hf it (by simp);have hl:=rel.length;rw[hl]at st;exact wpAny_pyNext_dict_end (I.ok.hd hc) st da (List.getElem?_eq_none (by omega)) λh' eb=>⟨rfl,I.turned (t':=s.toks) (λb o hb e=>eb b o hb e) f0 f1 f3 f4 f5⟩
 self:=λA i s Q E st h=>wpAny_pyIter_keyiter st h
theorem BY {K} (h:Hm a=some (.frz o (.dK kvs))):nU K Hm (Itk a o kvs) ((kvs.map (·.1)).map vW):=λi H O s hd=>by
 have h':H a=some (.frz o (.dK kvs)):=(aQ (s _ _ h)).2;refine⟨λd hi=>?_,λhi=>⟨h',by rw[length_map,length_map]at hi;exact hi⟩⟩;rw[List.map_map,getElem?_map]at hi;cases e:kvs[i]? with
 |none=>rw[e]at hi;cases hi
 |some p=>
  rw[e]at hi;cases hi;refine⟨⟨h',(List.getElem?_eq_some_iff.mp e).1⟩,λy H3 ⟨z,q,hq,hy⟩=>?_⟩;subst z hy;rw[e]at hq;cases hq;exact⟨Same.refl _,Fp _⟩
def iDk (i:Nat):TI:=λσ H R=>∃a kvs,σ[i]?=some (some (.ref a))/\Rd H a (.dK kvs)/\∀o H1,(H a=some (.dK kvs)/\H1=upd H a (.frz o (.dK kvs)))\/(H a=some (.frz o (.dK kvs))/\H1=H)->R (Itk a o kvs) H1
section
variable {X:Cx} {tg:Expr} {i:Nat} {x:Str} {px pos:Pos}
theorem IK (hN:X.N[i]?=some x) (hv:Vis X.env.scope x) (hd:(x==("__debug__":Str))=false) (hcd:(x==("__classdict__":Str))=false):PI X tg (.Name x px) (iDk i):=by
 intro pins s σ H R I ⟨a,kvs,hσ,hR,q⟩;refine thn (bO hN hv hd hcd pins s σ H (λv H1=>v=.ref a/\H1=H) I ⟨_,hσ,rfl,rfl⟩) λv s1 ⟨x1,H1,I1,r1,e1,e2⟩=>?_;subst e1 e2;cases r1;obtain⟨z,hsm,vs,rel,o,es,ep,e,x1,x2,x3⟩:=uc I1.hok hR;have key:∃H2,Inv X pins σ H2 s1/\H2 a=some (.frz o (.dK kvs))/\R (Itk a o kvs) H2:=by
  rcases hR with hR|⟨o',hR⟩
  ·exact⟨_,I1.reset hR (.inl rfl) (I1.noSt hR) (w:=.frz o (.dK kvs)) ⟨e,z,hsm,vs,rel,o,es,ep,e,x1,x2,x3⟩,ai,q o _ (.inl ⟨hR,rfl⟩)⟩
  ·have:=(I1.hok a _ hR).1;rw[e]at this;cases this;exact⟨_,I1,hR,q o _ (.inr ⟨hR,rfl⟩)⟩
 obtain⟨H2,I2,h2,q2⟩:=key;refine wpAny_pyIter_dict (knd:=bh X.prog X.w) hsm ⟨o,es,e,x1,x2,x3⟩ ?_;refine⟨s1.heap.objs.size,[s1.heap.objs.size],_,_,H2,rfl,I2.kept (t':=s1.toks) λb o e=>Heap.get?_push_of_some _ e,BX a _ x2,⟨_,Heap.get?_push_size _ rfl,rfl,by rw[rel.length];rfl⟩,λb hb=>?_,q2⟩;have e:b=s1.heap.objs.size:=by simpa using hb
 subst e;exact I2.fpOk (le_refl _) (I2.hok.fresh (le_refl _))
end
section
variable {K:Frag} {B:Bs} {O:Addr->Bool} {σ:St} {H:Hp} {Y:Ev}
theorem EnvOk.still (E:EnvOk K B O σ H Y) (o:Obj) (e:H a=some (.dK kvs)) (oa:O a=false) (ba:B.H a=none):EnvOk K B O σ (upd H a (.frz o (.dK kvs))) Y:=by
 obtain⟨F,h1,h2,h3,h4⟩:=E.fp;have st:Stl (msk O H) (msk O (upd H a (.frz o (.dK kvs)))):=BV (BU o e);refine⟨λb u q=>?_,E.bdom,E.sub,λb hb=>?_,E.len,F,λi s q=>?_,h2,h3,h4⟩
 ·rw[ah (av q ba)];exact E.same b u q
 ·rw[ah (λz=>by subst z;rw[oa]at hb;cases hb)];exact E.lis b hb
 ·obtain⟨v,e1,o1⟩:=h1 i s q;have ne:∀b∈F i,b≠a:=λb hb z=>by subst z;rw[(h4 i b hb).1]at oa;cases oa
  refine⟨v,e1,?_⟩;obtain⟨c,d⟩:=s;cases c with
  |sh=>exact⟨o1.1,Is.stl st _ _ o1.2⟩
  |top=>
   obtain⟨p,ds,xs,z1,z2,z3,z4,l⟩:=o1;exact⟨p,ds,xs,z1,z2,z3,by rw[ah (ne p (by rw[z3];exact mem_cons_self))];exact z4,IsL.stl st _ _ l⟩
  |deep=>
   refine Deep.frame (λb u q nh=>?_) _ _ _ (λb hb u q=>by rw[ah (ne b hb)];exact q) o1;obtain⟨ob,q⟩:=aQ q;rw[aM ob];by_cases z:b=a
   ·subst z;rw[e]at q;cases q;exact absurd (.inr (.inr ⟨_,rfl⟩)) nh
   ·rw[ah z];exact q
end
def yj (i:Nat) (g:D->Ev->Option Ev) (F:Ev->Option Out):Ev->Option Out:=λY=>(j9 Y i).bind λw=>iO (eP g F) (w.1.map vW) (frzS [i] Y)
theorem Fq {Y:Ev} {i:Nat} (h:Y[i]?=some (some (c,d))):(frzS [i] Y)[i]?=some (some (.sh,d)):=by
 show(frz1 i Y)[i]?=_;unfold frz1;rw[h];have:=(List.getElem?_eq_some_iff.mp h).1;exact List.getElem?_set_self this
section
variable {X:Cx} {tg:Expr} {i:Nat} {x:Str} {px pos:Pos}
theorem BZ (hp:PassesOwn (model X.prog X.w) X.A X.env X.xe) (hc:X.calm=true) (hN:X.N[i]?=some x) (hv:Vis X.env.scope x) (hd:(x==("__debug__":Str))=false) (hcd:(x==("__classdict__":Str))=false) (hg:PGE X tg g) (hb:PRs X body F) (hs:∀y,foldedSetIterable (.Name x px) X.env y=pure y):PR X (.For tg (.Name x px) body [] pos) (yj i g F):=λB O Y=>
 (kP hp hc (IK hN hv hd hcd) (PG.ex λz:(Addr->Bool)×Ev×D=>hg B z.1 z.2.1 z.2.2) (PSs.ex λz:(Addr->Bool)×Ev=>hb B z.1 z.2) hs).imp λEn σ H ⟨E,out,q,k⟩=>by
 obtain⟨⟨ks,ds⟩,q1,q⟩:=bind_some q;have h0:=jm q1;obtain⟨a,kvs,e1,e2,e3,oa,ba⟩:=E.dctAt h0;obtain⟨O',E',le⟩:=E.frzS [i];obtain⟨F',h1,_⟩:=E'.fp;obtain⟨v,z1,z2,a',kvs',z3,z4,_⟩:=h1 i _ (Fq h0);rw[e1]at z1;cases z1;cases z3;have oa':O' a=false:=by
  rcases z4 with z|⟨_,z⟩
  ·exact(aQ z).1
  ·exact(aQ z).1
 refine⟨a,kvs,e1,.inl e2,λo H1 hH=>?_⟩;rcases hH with⟨_,rfl⟩|⟨z,_⟩
 ·have E1:=E'.still o e2 oa' ba;have le1:Same (msk O H) (msk O' (upd H a (.frz o (.dK kvs)))):=λb u q=>by
   have nb:b≠a:=λz=>by subst z;rw[(aQ q).1]at oa;cases oa
   obtain⟨ob,q⟩:=aQ (le b u q);rw[aM ob,ah nb];exact q
  subst e3;obtain⟨_,ds',e',kk⟩:=oW (o:=some ((kvs.map (·.1)).map vW)) (Yv:=shv (frzS [i] Y)) (g:=g) (F:=F) E1 E1.viewS (show((some ((kvs.map (·.1)).map vW)).bind λds=>iO (eP g F) ds (frzS [i] Y))=some out from q) (k.mono le1);cases e';exact kk _ _ (Same.refl _) (BY (by rw[aM oa',ai]))
 ·rw[e2]at z;cases z
end
section
variable {K:Frag} {B:Bs} {O:Addr->Bool} {σ:St} {H:Hp} {Y:Ev} {i:Nat}
theorem EnvOk.move (E:EnvOk K B O σ H Y) {s:Sl} {v:V} (h:Y[i]?=some (some s)) (hv:σ[i]?=some (some v)):EnvOk K B O (σ++[some v]) H (Y.set i none++[some s]) where
 same:=E.same
 bdom:=E.bdom
 sub:=E.sub
 lis:=E.lis
 len:=by rw[length_append,length_append,List.length_set,E.len];rfl
 fp:=by
  obtain⟨F,h1,h2,h3,h4⟩:=E.fp;have hil:i<Y.length:=(List.getElem?_eq_some_iff.mp h).1;have key:∀k b,b∈(if k=Y.length then F i else if k=i then[]else F k)->(k=Y.length/\b∈F i)\/(k≠Y.length/\k≠i/\b∈F k):=λk b hb=>by
   by_cases e:k=Y.length
   ·rw[if_pos e]at hb;exact .inl ⟨e,hb⟩
   ·rw[if_neg e]at hb;by_cases e2:k=i
    ·rw[if_pos e2]at hb;cases hb
    ·rw[if_neg e2]at hb;exact .inr ⟨e,e2,hb⟩
  refine⟨λk=>if k=Y.length then F i else if k=i then[]else F k,λk x q=>?_,λk=>?_,λk l b hk hl=>?_,λk b hk=>?_⟩
  ·by_cases e:k=Y.length
   ·subst e;have hq:(Y.set i none++[some s])[Y.length]?=some (some s):=by
     have:=getElem?_last (Y.set i none) (some s);rwa [List.length_set]at this
    rw[hq]at q;cases q;obtain⟨v',e1,o1⟩:=h1 i s h;rw[hv]at e1;cases e1;refine⟨v,by rw[<-E.len];exact getElem?_last _ _,?_⟩;simp only[if_true];exact o1
   ·have q':=dR (by rw[List.length_set];exact e) q;rcases get_set_some q' with⟨_,z⟩|⟨ne,q2⟩
    ·cases z
    ·obtain⟨w,e1,o1⟩:=h1 k x q2;have hkl:k<σ.length:=(List.getElem?_eq_some_iff.mp e1).1;refine⟨w,by rw[getElem?_append_left hkl];exact e1,?_⟩;simp only[if_neg e,if_neg ne];exact o1
  ·dsimp only;split
   ·exact h2 _
   ·split
    ·exact List.nodup_nil
    ·exact h2 _
  ·rcases key k b hk with⟨a1,a2⟩|⟨a1,a2,a3⟩<;>rcases key l b hl with⟨b1,b2⟩|⟨b1,b2,b3⟩
   ·omega
   ·exact absurd (h3 _ _ b a2 b3) (by omega)
   ·exact absurd (h3 _ _ b a3 b2) (by omega)
   ·exact h3 _ _ b a3 b3
  ·rcases key k b hk with⟨a1,a2⟩|⟨a1,a2,a3⟩
   ·exact h4 _ b a2
   ·exact h4 _ b a3
end
def mvE (j:Nat):Ev->Option (Sl×Ev):=λY=>(j9 Y j).bind λw=>some ((.deep,.dct w.1 w.2),Y.set j none)
section
variable {X:Cx} {i:Nat} {x:Str} {px pos:Pos}
theorem IL (hN:X.N[i]?=some x) (hv:Vis X.env.scope x) (hd:(x==("__debug__":Str))=false) (hcd:(x==("__classdict__":Str))=false):PEv X (.Name x px) (mvE i):=λB O Y=>PE.pu ((bO hN hv hd hcd).imp λσ H Q ⟨E,s,Y',q,k⟩=>by
 obtain⟨⟨ks,ds⟩,q1,q⟩:=bind_some q;cases q;have h0:=jm q1;obtain⟨a,kvs,e1,_⟩:=E.dctAt h0;exact⟨.ref a,e1,k _ H O (Same.refl _) (E.move h0 e1)⟩) rfl
theorem B0:PFr X (.Dict [some (.Constant (.int n) j1 p1)] [.Constant (.bool b) j2 p2] pos) (λ_=>some (.dct [.inl n] [.bl b])):=λY=>PE.pu ((Ba (wW pe_int (pe_bl) A9) rfl rfl (by simp) (show 1<=15 by decide)).imp λσ H Q ⟨E,d,q,k⟩=>by
 cases q;intro p hp;refine⟨ai,[(.inl n,.bl b)],rfl,(show 1<=15 by decide),?_⟩;refine k _ _ [p] (λc o h=>?_) ⟨p,[(.inl n,.bl b)],[],rfl,ai,rfl,rfl,.bl b,[],[],[],rfl,rfl,⟨rfl,rfl⟩,rfl,rfl⟩ (List.nodup_cons.mpr ⟨(λz=>nomatch z),List.nodup_nil⟩) λc hc=>by rw[mem_singleton.mp hc];exact hp
 have:c≠p:=av h hp;rw[ah this,ah this];exact h) rfl
end
theorem IsL.rep {K} (h:IsL K M ds xs):∀n:Nat,IsL K M (List.replicate n ds).flatten (List.replicate n xs).flatten
 |0=>rfl
 |n+1=>by
  rw[List.replicate_succ,List.replicate_succ,List.flatten_cons,List.flatten_cons];exact h.app (IsL.rep h n)
section
variable {X:Cx} {a b e tg:Expr} {pos:Pos}
def B3 (fa:Vv->Option (List D)) (fb:Vv->Option D):Vv->Option (List D):=λY=>(fa Y).bind λxs=>(fb Y).bind λy=>(intD y).bind λn=>if 0<=n/\n<256/\xs.length*n.toNat<=256 then some (List.replicate n.toNat xs).flatten else none
theorem Fs (ha:PF X a fa) (hb:PP X b fb):PF X (.BinOp a .Mult b pos) (B3 fa fb):=λO Y=>(wH Ep (ha O Y) (hb O Y)).imp λσ H Q ⟨E,ds,q,k⟩=>by
 obtain⟨xs,e1,q⟩:=bind_some q;obtain⟨dy,e2,q⟩:=bind_some q;obtain⟨n,f2,q⟩:=bind_some q;obtain⟨g1,g2⟩:=aw q;subst g2;cases intD_some f2;refine⟨E,xs,e1,λp us H1 s1 hp l=>?_⟩;have s2:=s1.trans (Same.new (o:=.lst us) hp);refine⟨E.grow s2,_,e2,λy H2 s3 i2=>?_⟩;have hz:us.length*n.toNat<=sizeLine:=by
  rw[<-l.len];exact Nat.le_trans g1.2.2 (by decide)
 exact⟨p,n,us,rfl,i2,s3 _ _ (ai ..),by omega,by omega,hz,λp' hp'=>k p' _ H2 (s2.trans s3) hp' ((IsL.mono (((Same.new hp).trans s3).msk) _ _ l).rep _)⟩
end
section
variable {X:Cx} {a b:Expr} {pos:Pos}
def yk (K:Frag):R2:=λx y H Q=>∃a b ys,x=.ref a/\y=.ref b/\SqT K H a []/\SqT K H b ys/\Q (.ref b) H
theorem ym:OpR X (binaryOp .Add) (yk X.K):=by
 intro pins s σ H x y v u Q I rx ry h;obtain⟨a,b,ys,rfl,rfl,ha,hb,q⟩:=h;cases rx;cases ry;obtain⟨its,r1,p1,_⟩:=I.tuple ha;obtain⟨its2,r2,p2,_⟩:=I.tuple hb;have hn:its=[]:=r1.nil_iff.mpr rfl;subst hn;obtain⟨⟨cls,dd,data,sl⟩,ho,hc,n,hd⟩:=id p1;obtain⟨⟨cls2,dd2,data2,sl2⟩,ho2,hc2,n2,hd2⟩:=id p2;simp only at hc hd hc2 hd2;subst hc hd hc2 hd2;exact concat_meets ⟨_,ho,rfl⟩ ⟨_,ho2,rfl⟩ noFill_tuple_add seq_tuple_add PySem.F.slot_tuple_add PySem.F.entry_tuple_add (PySem.F.args_tuple_add_2 _ _) (tuple_addW0 a b _ _ n n2 dd dd2 sl sl2 rfl) ⟨ho,ho2,.ref b,H,I,rfl,q⟩
def rTT (K:Frag):R2:=λx y H Q=>Dj K x y H Q\/yk K x y H Q
theorem IM:OpR X (binaryOp .Add) (rTT X.K):=λpins s σ H x y v u Q I rx ry h=>h.elim (AV pins s σ H x y v u Q I rx ry) (ym pins s σ H x y v u Q I rx ry)
def K9:D->D->Option D
 |.tup a,.tup b=>if a.length+b.length<big then some (.tup (a++b))else none
 |_,_=>none
theorem La {K}:R2D K (rTT K) K9:=λO H x y dx dy d Q hd ix iy e k=>by
 cases dx with
 |tup as=>
  cases dy with
  |tup bs=>
   obtain⟨hz,e⟩:=aw (show(if as.length+bs.length<big then _ else none)=some d from e);subst e;obtain⟨p,us,rfl,t1,l1⟩:=ix;obtain⟨q,ws,rfl,t2,l2⟩:=iy;have hl1:=l1.len;have hl2:=l2.len;cases as with
   |nil=>
    have hu:us=[]:=List.length_eq_zero_iff.mp (by rw[<-hl1];rfl);subst hu;exact .inr ⟨p,q,ws,rfl,rfl,msk_le.seqT t1,msk_le.seqT t2,k _ H (Same.refl _) ⟨q,ws,rfl,t2,l2⟩⟩
   |cons a as=>
    have hu:us≠[]:=λz=>by rw[z]at hl1;cases hl1
    refine .inl ⟨p,q,us,ws,rfl,rfl,msk_le.seqT t1,msk_le.seqT t2,hu,by rw[<-hl1,<-hl2];exact Nat.le_of_lt hz,λz=>?_,λz c hc=>?_⟩
    ·subst z;have hb:bs=[]:=List.length_eq_zero_iff.mp (by rw[hl2];rfl);subst hb;rw[List.append_nil]at k;exact k _ H (Same.refl _) ⟨p,us,rfl,t1,l1⟩
    ·have hO:=fV hd hc;have le:Same (msk O H) (msk O (upd H c (.tup (us++ws)))):=by rw[oH hO];exact Same.new (by rw[aM hO];exact hc)
     exact k _ _ (Same.new hc) ⟨c,us++ws,rfl,.of (by rw[aM hO,ai]),IsL.mono le _ _ (l1.app l2)⟩
  |_=>cases e
 |_=>cases e
def aE:D->D->Option D
 |.int i,.int j=>some (.int (i+j))
 |.tup a,.tup b=>if a.length+b.length<big then some (.tup (a++b))else none
 |_,_=>none
theorem Ft (ha:PP X a fa) (hb:PP X b fb):PP X (.BinOp a .Add b pos) (aa aE fa fb):=λO Y=>(Bd ha hb O Y).by2 (nO IM La ha hb O Y) λσ H Q ⟨E,d,q,k⟩=>by
 obtain⟨x,e1,q⟩:=bind_some q;obtain⟨y,e2,q⟩:=bind_some q;have w1:∀g:D->D->Option D,aa g fa fb Y=g x y:=λg=>by show(fa Y).bind _=_;rw[e1];show(fb Y).bind _=_;rw[e2];rfl
 cases x<;>cases y<;>first
  |exact .inl ⟨E,d,by rw[w1];exact q,k⟩
  |exact .inr ⟨E,d,by rw[w1];exact q,k⟩
def vX (k:Int) (ns:List Int):Option Nat:=ns.findIdx? λn=>n==k
def Lb (K:Frag):V->List V->Hp->VK->Prop:=λx vs H Q=>∃ (l:Addr) (ns:List Int) (k:Int) (j:Nat),x=.ref l/\vs=[.int k]/\SqL K H l (ns.map V.int)/\vX k ns=some j/\Q (.int (j:Int)) H
theorem yn (h:vX k ns=some j):∃hj:j<ns.length,ns[j]=k/\∀i (hi:i<ns.length),i<j->ns[i]≠k:=by
 obtain⟨hj,h1,h2⟩:=List.findIdx?_eq_some_iff_getElem.mp h;grind
theorem yo:MtM X "list.index" (Lb X.K):=by
 intro pins s σ H x vs v us Q I rx rv h;obtain⟨l,ns,k,j,rfl,rfl,hx,hj,q⟩:=h;cases rx;obtain⟨u,rfl,ru⟩:=rv.one;obtain⟨t,rfl⟩:=ru;obtain⟨its,r,⟨⟨c1,d1,t1,s1⟩,n1,e1,k1,_,w1⟩,hz⟩:=I.list hx;simp only at k1 w1;subst k1 w1;obtain⟨hjl,hit,hno⟩:=yn hj;have hl:=r.length;rw[length_map]at hl hz;have get:∀i (hi:i<its.length) (hi2:i<ns.length),isInt k its[i]=(ns[i]==k):=λi hi hi2=>by
  obtain⟨w,hw,rw'⟩:=r.get (show(ns.map V.int)[i]?=some (V.int ns[i])by rw[getElem?_map,getElem?_eq_getElem hi2];rfl);rw[getElem?_eq_getElem hi]at hw;cases hw;obtain⟨t',e⟩:=rw';rw[e];rfl
 have hs:(j:Int)<2^63-1:=by
  have:sizeLine<2^62:=by decide
  omega
 refine call_meets F.slot_list_index ⟨_,e1,rfl⟩ F.entry_list_index (F.args_list_index_2 _ _) (PySem.SeqAt.list_indexAt l its.toArray n1 d1 s1 (.int k t) (isInt k) j (by rw[size_toArray];omega) hs ?_ ?_) ⟨e1,λy hy=>?_,?_⟩
 ·have:=get j (by omega) hjl;simp only[List.getElem_toArray];rw[this,hit];simp
 ·intro m hm hlt;have hm':m<its.length:=by simpa using hm
  have:=get m hm' (by omega);simp only[List.getElem_toArray];rw[this];simpa using hno m (by omega) hlt
 ·have hy':y∈its:=by simpa using hy
  obtain⟨i,hi⟩:=List.mem_iff_getElem?.mp hy';have hil:i<its.length:=(List.getElem?_eq_some_iff.mp hi).1;obtain⟨w,hw,rw'⟩:=r.get (show(ns.map V.int)[i]?=some (V.int (ns[i]'(by omega)))by rw[getElem?_map,getElem?_eq_getElem (by omega)];rfl);rw[hi]at hw;cases hw;obtain⟨t',e⟩:=rw';subst e;exact PySem.SeqAt.EqAt.int_int _ t' k t
 ·exact⟨.int (j:Int),H,I.kept (t':=s.toks+1) λb o ho=>ho,⟨_,rfl⟩,q⟩
def B4 (fo fk:Vv->Option D):Vv->Option D:=λY=>(fo Y).bind λl=>(fW l).bind λds=>(dA ds).bind λns=>(fk Y).bind λy=>(intD y).bind λk=>(vX k ns).bind λj=>some (.int (j:Int))
theorem yp (ho:PP X (.Name x px) fo) (hk:PP X e fk) (hst:starEach [e] X.env=(false,eval e X.env)::starEach [] X.env) (hl:(ap.endLine==cp.line)=true):
  PP X (.Call (.Attribute (.Name x px) "index" ap) [e] [] cp) (B4 fo fk):=λO Y=>
 (iF PySem.F.plainAttrs_list PySem.F.slot_list_index PySem.F.type_list_index yo (ho O Y) (bi (hk O Y) pa_nil hst) rfl (by rw[hst];rfl) hl hst rfl).imp λσ H Q ⟨E,d,q,k⟩=>by
 obtain⟨l,q1,qa⟩:=bind_some q
 obtain⟨ds,q2,qb⟩:=bind_some qa
 obtain⟨ns,q3,qc⟩:=bind_some qb
 obtain⟨y,q4,qd⟩:=bind_some qc
 obtain⟨n,q5,qe⟩:=bind_some qd
 obtain⟨j,q6,qf⟩:=bind_some qe
 cases qf
 cases intD_some q5
 refine⟨E,l,q1,λv H1 s1 i1=>?_⟩
 obtain⟨p,xs,rfl,t,il⟩:=c8 q2 i1
 refine⟨.inl ⟨rfl,xs,msk_le.seq t⟩,E.grow s1,_,q4,λyv H2 s2 iy=>?_⟩
 cases(show yv=.int n from iy)
 have hx:=jg q3 il
 subst hx
 exact⟨p,ns,n,j,rfl,rfl,s2.seq (msk_le.seq t),q6,k _ H2 (s1.trans s2) rfl⟩
end
section
variable {X:Cx} {a:Expr} {p pc pos:Pos}
end
structure Gb where
 fn:Str->Option (Nat×(List D->Option Sl))
 cn:Str->Option D
 no:Str->Bool
 fl:Str->Str->Bool
 mt:Str->MT
 ini:Str->Option (Nat×(List D->Option (List (Str×D))))
structure Sn where
 N:List Str
 nm:List (Str×NameKind)
 k:Nat
 G:Gb
structure GbOk (P:Program) (w:World) (K:Frag) (mg:Str->Option Value) (base:Heap) (G:Gb):Prop where
 fn:∀x k f,G.fn x=some (k,f)->Df P w K mg base x k f
 cn:∀x d,G.cn x=some d->Cn K mg x d
 no:∀x,G.no x=true->mg x=none
 fl:∀C m Ca,G.fl C m=true->nsIn K mainGlobals C=some (some (.ref Ca))->Cls K Ca/\NoAttr K Ca m
 mt:∀m C k f,G.mt m C=some (k,f)->Mf P w K mg base C m k f
 ini:∀C k g,G.ini C=some (k,g)->Mkf P w K mg base C k g
structure SnOk (X:Cx) (S:Sn):Prop where
 g:GbOk X.prog X.w X.K X.mg X.base S.G
 N:X.N=S.N
 nd:S.N.Nodup
 calm:X.calm=true
 room:Room S.k X.A
 loc:∀x,S.nm.lookup x=some .local->X.env.scope.names.lookup x=some .local
 cel:∀x,S.nm.lookup x=some .cell->X.env.scope.names.lookup x=some .cell
 fre:∀x,S.nm.lookup x=some .free->X.env.scope.names.lookup x=some .cell\/X.env.scope.names.lookup x=some .free
 glo:∀x,S.nm.lookup x=some .globalImplicit->X.env.kindOf x=some .globalImplicit
def bq (S:Sn) (x:Str):Option Nat:=if eD x&&ut (S.nm.lookup x)then oY S.N x else none
def glS (S:Sn) (x:Str):Bool:=eD x&&decide (S.nm.lookup x=some .globalImplicit)
def nmF (S:Sn) (x:Str):Vv->Option D:=match bq S x with
 |some i=>λY=>fP Y i
 |none=>if glS S x then(match S.G.cn x with
  |some d=>λ_=>some d
  |none=>if S.G.no x then(match oZ x with|some n=>λ_=>some (.ty n)|none=>λ_=>none)elseλ_=>none)elseλ_=>none
section
variable {X:Cx} {S:Sn} {pos:Pos}
theorem pp_no:PP X e (λ_=>none):=λO Y=>(oU O Y).1
theorem SnOk.vis (o:SnOk X S) (h:ut (S.nm.lookup x)=true):Vis X.env.scope x:=by
 cases e:S.nm.lookup x with
 |none=>rw[e]at h;cases h
 |some k=>
  rw[e]at h;cases k with
  |«local»=>exact .inl (o.loc x e)
  |cell=>exact .inr (.inl (o.cel x e))
  |free=>
   rcases o.fre x e with q|q
   ·exact .inr (.inl q)
   ·exact .inr (.inr q)
  |globalExplicit=>cases h
  |globalImplicit=>cases h
theorem aR (o:SnOk X S) (h:bq S x=some i):eD x=true/\Vis X.env.scope x/\X.N[i]?=some x/\ut (S.nm.lookup x)=true:=by
 unfold bq at h;split at h
 ·rename_i c;rw[and_eq_true]at c;exact⟨c.1,o.vis c.2,by rw[o.N];exact eQ h,c.2⟩
 ·cases h
theorem bn (o:SnOk X S) (h:glS S x=true):eD x=true/\Gl X x:=by
 unfold glS at h;rw[and_eq_true]at h;exact⟨h.1,o.glo x (of_decide_eq_true h.2)⟩
theorem sP (o:SnOk X S) (x:Str):PP X (.Name x pos) (nmF S x):=by
 unfold nmF;split
 ·rename_i i e;obtain⟨h1,h2,h3,_⟩:=aR o e;obtain⟨a,b,c⟩:=bJ h1;exact Et i h3 h2 a b
 ·split
  ·rename_i e;obtain⟨h1,h2⟩:=bn o e;obtain⟨a,b,c⟩:=bJ h1;split
   ·rename_i d hd;exact xi (o.g.cn x d hd) h2 a
   ·split
    ·rename_i hn;split
     ·rename_i n hb;exact HK h2 (o.g.no x hn) (sF hb) c a
     ·exact pp_no
    ·exact pp_no
  ·exact pp_no
end
def aG:Expr->Bool
 |.Starred _ _=>false
 |_=>true
theorem star1 (h:aG e=true):starEach (e::es) env=(false,eval e env)::starEach es env:=by
 cases e<;>first|rfl|cases h
theorem uE:∀ {es:List Expr},es.all aG=true->(backTo pos (starEach es env)).any (·.1)=false
 |[],_=>rfl
 |e::es,h=>by
  rw[List.all_cons,and_eq_true]at h;rw[star1 h.1];show(false||(backTo pos (starEach es env)).any (·.1))=false;rw[uE h.2];rfl
def Lc:Operator->Option (D->D->Option D)
 |.Add=>some aE
 |.Sub=>some cg
 |.Mult=>some bN
 |.FloorDiv=>some cO
 |.Mod=>some aT
 |_=>none
def IN (op:Operator) (fa fb:Vv->Option D):Vv->Option D:=match Lc op with
 |some g=>aa g fa fb
 |none=>λ_=>none
def gP:Expr->Bool
 |.Set _ _ _=>false
 |_=>true
theorem noSet_mark (h:gP b=true):behindInMarks op b=false:=by
 cases b<;>first|rfl|cases h
theorem cq (h:gP iter=true):∀x,foldedSetIterable iter env x=pure x:=by
 intro x;cases iter<;>first|rfl|cases h
def cmpG:CmpOp->Option (D->D->Option D)
 |.Lt=>some ltD
 |.LtE=>some leD
 |.Gt=>some gtD
 |.GtE=>some geD
 |.Eq=>some (aF false)
 |.NotEq=>some (aF true)
 |.In=>some inD
 |.IsNot=>some (xm true)
 |_=>none
def vY (op:CmpOp) (b:Expr) (fa fb:Vv->Option D):Vv->Option D:=match cmpG op with
 |some g=>if gP b then aa g fa fb elseλ_=>none
 |none=>λ_=>none
section
variable {X:Cx} {S:Sn} {a b c:Expr} {pos:Pos}
theorem IP (op:Operator) (ha:PP X a fa) (hb:PP X b fb):PP X (.BinOp a op b pos) (IN op fa fb):=by
 cases op<;>first
  |exact Ft ha hb
  |exact Eu ha hb
  |exact Ew ha hb
  |exact Ex ha hb
  |exact Ey ha hb
  |exact pp_no
theorem IQ (o:SnOk X S) (op:CmpOp) (ha:PP X a fa) (hb:PP X b fb):PP X (.Compare a [op] [b] pos) (vY op b fa fb):=by
 unfold vY;cases op<;>dsimp only[cmpG]<;>(try split)<;>first
  |exact pp_no
  |exact HZ (lt_of_le_of_lt (Nat.le_add_right _ _) (room60 o.room)) ha hb
  |exact H9 ha hb
  |exact Ia (lt_of_le_of_lt (Nat.le_add_right _ _) (room60 o.room)) ha hb
  |exact Ib ha hb
  |exact Im o.room ha hb
  |exact Io o.room ha hb
  |(rename_i h;exact pp_cmp (op_inA (lt_of_le_of_lt (Nat.add_le_add_left (show 1<=60 by decide) _) (room60 o.room))) r_in ha hb (noSet_mark h))
  |(rename_i h;exact pp_cmp op_notN r_notN ha hb (noSet_mark h))
theorem Fu (o:SnOk X S) (op:CmpOp) (ha:PP X a fa) (hb:PP X b fb):PQ X (.Compare a [op] [b] pos) (ar (vY op b fa fb)):=by
 have no:PQ X (.Compare a [op] [b] pos) (ar λ_=>none):=λO Y pins s σ H Q I ⟨_,_,q,_⟩=>by cases q
 unfold vY;cases op<;>dsimp only[cmpG]<;>(try split)<;>first
  |exact no
  |exact Ic (lt_of_le_of_lt (Nat.le_add_right _ _) (room60 o.room)) ha hb
  |exact Ie ha hb
  |exact Ig (lt_of_le_of_lt (Nat.le_add_right _ _) (room60 o.room)) ha hb
  |exact Ih ha hb
  |exact Ip o.room ha hb
  |exact Iq o.room ha hb
  |(rename_i h;exact pq_cmp (op_inA (lt_of_le_of_lt (Nat.add_le_add_left (show 1<=60 by decide) _) (room60 o.room))) r_in ha hb (noSet_mark h))
  |(rename_i h;exact pq_cmp op_notN r_notN ha hb (noSet_mark h))
end
noncomputable def yq (x:Str):Option (List D->Option D):=if x=("len":Str)then some bP else if x=("isinstance":Str)then some iK else if x=("all":Str)then some ss else if x=("tuple":Str)then some b6 else if x=("max":Str)then some oP else if x=("min":Str)then some EN else if x=("any":Str)then some m6 else if x=("int":Str)then some qF else if x=("sum":Str)then some oM else none
noncomputable def yt (S:Sn) (x:Str):List D->Option D:=if glS S x then(match S.G.fn x with
 |some (k,g)=>if k<=S.k thenλds=>gJ (g ds)elseλ_=>none
 |none=>match S.G.ini x with
  |some (k,g)=>if k+1<=S.k thenλds=>BD x (g ds)elseλ_=>none
  |none=>if S.G.no x then(match yq x with|some g=>g|none=>λ_=>none)elseλ_=>none)elseλ_=>none
def yu (S:Sn) (x:Str):List D->Option D:=if glS S x then(match S.G.fn x with
 |some (k,g)=>if k<=S.k thenλds=>qz (g ds)elseλ_=>none
 |none=>λ_=>none)elseλ_=>none
section
variable {X:Cx} {S:Sn} {e:Expr} {es:List Expr} {p pos:Pos}
theorem uF {α β:Type} (o:Option α):(o.bind λ_=>(none:Option β))=none:=by cases o<;>rfl
theorem dU {fa:Vv->Option (List D)}:PP X e (λY=>(fa Y).bind λ_=>none):=λO Y pins s σ H Q I ⟨_,_,q,_⟩=>by dsimp only at q;rw[uF]at q;cases q
theorem k_call (o:SnOk X S) (x:Str) (ha:PX X (e::es) fa) (hst:(e::es).all aG=true):PP X (.Call (.Name x p) (e::es) [] pos) (λY=>(fa Y).bind (yt S x)):=by
 rw[List.all_cons,and_eq_true]at hst;have h1:starEach (e::es) X.env=(false,eval e X.env)::starEach es X.env:=star1 hst.1;have h2:∀pos,(backTo pos (starEach es X.env)).any (·.1)=false:=λpos=>uE hst.2;unfold yt;split
 ·rename_i hg;obtain⟨ok,gl⟩:=bn o hg;obtain⟨n1,n2,n3⟩:=bJ ok;split
  ·rename_i k g hf;split
   ·rename_i hk;exact BB (o.g.fn x k g hf) (o.room.mono hk) gl ha n1 h1 (h2 _)
   ·exact dU
  ·split
   ·rename_i k g hf;split
    ·rename_i hk;exact BE (o.g.ini x k g hf) (o.room.mono hk) gl ha n1 h1 (h2 _)
    ·exact dU
   ·split
    ·rename_i hn;have hm:=o.g.no x hn;split
     ·rename_i g hb;unfold yq at hb;split at hb
      ·rename_i q;cases hb;subst q;exact pp_callB call_len_seq rn_len gl hm PySem.boot_len ha n3 n1 h1 (h2 _)
      ·split at hb
       ·rename_i q;cases hb;subst q;exact pp_callB call_isi rn_isi gl hm (by decide+kernel) ha n3 n1 h1 (h2 _)
       ·split at hb
        ·rename_i q;cases hb;subst q;exact pp_callB (call_all o.calm) rn_all gl hm (by decide+kernel) ha n3 n1 h1 (h2 _)
        ·split at hb
         ·rename_i q;cases hb;subst q;exact pp_callTy call_tuple_of rn_tuple gl hm (by decide+kernel) ha n3 n1 h1 (h2 _)
         ·split at hb
          ·rename_i q;cases hb;subst q;exact pp_callB (call_max2 o.calm) rn_max gl hm b_max ha n3 n1 h1 (h2 _)
          ·split at hb
           ·rename_i q;cases hb;subst q;exact pp_callB (call_min2 o.calm) rn_min gl hm b_min ha n3 n1 h1 (h2 _)
           ·split at hb
            ·rename_i q;cases hb;subst q;exact pp_callB (call_any o.calm) rn_any gl hm (by decide+kernel) ha n3 n1 h1 (h2 _)
            ·split at hb
             ·rename_i q;cases hb;subst q;exact pp_callTy call_intB rn_intB gl hm (by decide+kernel) ha n3 n1 h1 (h2 _)
             ·split at hb
              ·rename_i q;cases hb;subst q;exact pp_callB (call_sumL o.calm) rn_sum gl hm b_sum ha n3 n1 h1 (h2 _)
              ·cases hb
     ·exact dU
    ·exact dU
 ·exact dU
theorem k_callR (o:SnOk X S) (x:Str) (ha:PX X (e::es) fa) (hst:(e::es).all aG=true):PFr X (.Call (.Name x p) (e::es) [] pos) (λY=>(fa Y).bind (yu S x)):=by
 rw[List.all_cons,and_eq_true]at hst;have h1:starEach (e::es) X.env=(false,eval e X.env)::starEach es X.env:=star1 hst.1;have h2:∀pos,(backTo pos (starEach es X.env)).any (·.1)=false:=λpos=>uE hst.2;have no:PFr X (.Call (.Name x p) (e::es) [] pos) (λY=>(fa Y).bind λ_=>none):=λY=>by dsimp only;rw[uF];exact iM Y
 unfold yu;split
 ·rename_i hg;obtain⟨ok,gl⟩:=bn o hg;obtain⟨n1,n2,n3⟩:=bJ ok;split
  ·rename_i k g hf;split
   ·rename_i hk;exact BC (o.g.fn x k g hf) (o.room.mono hk) gl ha n1 h1 (h2 _)
   ·exact no
  ·exact no
 ·exact no
end
def sQ (N:List Str) (nm:List (Str×NameKind)):List Nat:=(List.range N.length).filter λi=>match N[i]? with|some x=>decide (nm.lookup x=some .local)|none=>false
theorem qI (h:N[i]?=some x) (h2:nm.lookup x=some .local):i∈sQ N nm:=by grind [sQ]
def yw (S:Sn) (x:Str):Option Nat:=if S.nm.lookup x=some .local then oY S.N x else none
mutual
noncomputable def tgV (S:Sn):Nat->Expr->D->Vv->Option Vv
 |0=>λ_ _ _=>none
 |n+1=>λe=>match e with
  |.Name x _=>(match yw S x with|some i=>gNm i|none=>λ_ _=>none)
  |.Tuple ts _ _=>if ts.all aG then gTp ts.length (B5 S n ts)elseλ_ _=>none
  |_=>λ_ _=>none
noncomputable def B5 (S:Sn):Nat->List Expr->List D->Vv->Option Vv
 |0=>λ_ _ _=>none
 |n+1=>λes=>match es with
  |[]=>dh
  |t::ts=>if aG t then aI (tgV S n t) (B5 S n ts)elseλ_ _=>none
end
def pj (S:Sn) (x:Str):Option Nat:=if S.nm.lookup x=some .local\/S.nm.lookup x=some .cell then oY S.N x else none
mutual
noncomputable def tgE (S:Sn):Nat->Expr->D->Ev->Option Ev
 |0=>λ_ _ _=>none
 |n+1=>λe=>match e with
  |.Name x _=>(match pj S x with|some i=>eNm i|none=>λ_ _=>none)
  |.Tuple ts _ _=>if ts.all aG then eTp ts.length (B6 S n ts)elseλ_ _=>none
  |_=>λ_ _=>none
noncomputable def B6 (S:Sn):Nat->List Expr->List D->Ev->Option Ev
 |0=>λ_ _ _=>none
 |n+1=>λes=>match es with
  |[]=>xB
  |t::ts=>if aG t then nX (tgE S n t) (B6 S n ts)elseλ_ _=>none
end
section
variable {X:Cx} {S:Sn}
theorem asg1 (h:aG t=true):(assignEach (t::ts) env).map (·.2)=assign t env::(assignEach ts env).map (·.2):=by
 cases t<;>first|rfl|cases h
theorem asgLen:∀ {ts:List Expr},(assignEach ts env).length=ts.length
 |[]=>rfl
 |t::ts=>by cases t<;>exact congrArg (·+1) (asgLen (ts:=ts))
theorem yy:∀ {ts:List Expr},ts.all aG=true->(assignEach ts env).findIdx? (·.1)=none
 |[],_=>rfl
 |t::ts,h=>by
  rw[List.all_cons,and_eq_true]at h;have ih:=yy (env:=env) h.2;have:assignEach (t::ts) env=(false,assign t env)::assignEach ts env:=by
   have h1:=h.1;cases t<;>first|rfl|cases h1
  rw[this,List.findIdx?_cons];simp[ih]
theorem uG:PGD X ks e (λ_ _=>none):=λO Y d pins s σ H v u Q I r ⟨_,_,_,q,_⟩=>by cases q
theorem yz:vG X ks e (λ_ _=>none):=λO Y d pins s σ H v u Q I r ⟨_,_,_,q,_⟩=>by cases q
theorem uH:PGE X e (λ_ _=>none):=λB O Y d pins s σ H v u Q I r ⟨_,_,_,q,_⟩=>by cases q
theorem yA:vK X e (λ_ _=>none):=λB O Y d pins s σ H v u Q I r ⟨_,_,_,q,_⟩=>by cases q
theorem sS (h:yw S x=some i):S.nm.lookup x=some .local/\S.N[i]?=some x:=by
 unfold yw at h;split at h
 ·exact⟨by assumption,eQ h⟩
 ·cases h
theorem qJ (h:pj S x=some i):(S.nm.lookup x=some .local\/S.nm.lookup x=some .cell)/\S.N[i]?=some x:=by
 unfold pj at h;split at h
 ·exact⟨by assumption,eQ h⟩
 ·cases h
theorem DB (o:SnOk X S):∀n,(∀e,PGD X (sQ S.N S.nm) e (tgV S n e))/\∀es,vG X (sQ S.N S.nm) es (B5 S n es):=by
 intro n;induction n with
 |zero=>exact⟨λe=>uG,λes=>yz⟩
 |succ n ih=>
  refine⟨λe=>?_,λes=>?_⟩
  ·unfold tgV;split
   ·split
    ·rename_i i hi;obtain⟨h1,h2⟩:=sS hi;exact Bk (by rw[o.N];exact o.nd) (by rw[o.N];exact h2) (.inl (o.loc _ h1)) (qI h2 h1) (.inr (o.loc _ h1))
    ·exact uG
   ·split
    ·rename_i h;exact EI o.calm (ih.2 _) asgLen (yy h)
    ·exact uG
   ·exact uG
  ·unfold B5;split
   ·exact Bl
   ·split
    ·rename_i h;exact gsd_cons (ih.1 _) (ih.2 _) (asg1 h)
    ·exact yz
theorem qK (o:SnOk X S) (hf:∀x,X.fn x=true):∀n,(∀e,PGE X e (tgE S n e))/\∀es,vK X es (B6 S n es):=by
 intro n;induction n with
 |zero=>exact⟨λe=>uH,λes=>yA⟩
 |succ n ih=>
  refine⟨λe=>?_,λes=>?_⟩
  ·unfold tgE;split
   ·split
    ·rename_i i hi;obtain⟨h1,h2⟩:=qJ hi;have hl:Loc X.env.scope _:=h1.elim (λh=>.inl (o.loc _ h)) (λh=>.inr (o.cel _ h));exact By (by rw[o.N];exact o.nd) (by rw[o.N];exact h2) hl (.inl (hf _))
    ·exact uH
   ·split
    ·rename_i h;exact EW o.calm (ih.2 _) asgLen (yy h)
    ·exact uH
   ·exact uH
  ·unfold B6;split
   ·exact Bz
   ·split
    ·rename_i h;exact gse_cons (ih.1 _) (ih.2 _) (asg1 h)
    ·exact yA
def iQ (S:Sn) (sc:Scope):Bool:=decide (sc.kind=.function)&&sc.names.all λy=>!decide (y.2=.cell)&&(!decide (y.2=.local)||decide (sc.names.lookup y.1=some .local))&&
 (!decide (y.2=.free)||decide (S.nm.lookup y.1=some .cell)||decide (S.nm.lookup y.1=some .free))
theorem sT (o:SnOk X S) (h:iQ S sc=true):CSc X sc (sQ S.N sc.names):=by
 unfold iQ at h;rw[and_eq_true]at h;have hk:=of_decide_eq_true h.1;have ha:=List.all_eq_true.mp h.2;refine⟨hk,λy hy z=>?_,λy hy z=>?_,λy hy z=>?_,λi x hx hl=>qI (by rw[<-o.N];exact hx) hl⟩
 ·have:=ha y hy;simp[z]at this
 ·have:=ha y hy;simp[z]at this;exact this
 ·have:=ha y hy;simp[z]at this;rcases this with q|q
  ·exact .inl (o.cel _ q)
  ·exact o.fre _ q
theorem jP {f:Str → NameKind → NameKind}:∀ {l:List (Str × NameKind)},(l.map fun y=>(y.1,f y.1 y.2)).lookup x = (l.lookup x).map (f x)
  | []=>rfl
  | (n,k) :: l=>by
    rw [List.map_cons,List.lookup_cons,List.lookup_cons]
    cases h:x == n with
    | true => have : x = n := by simpa using h
              subst this; rfl
    | false=>exact jP
theorem fw:(relabel sc env).names.lookup x=(sc.names.lookup x).map λk=>if(k==NameKind.free&&env.scope.kind==.function&&env.kindOf x==some .cell)then NameKind.cell else k:=by
 have e:(relabel sc env).names=sc.names.map λy=>(y.1,if(y.2==NameKind.free&&env.scope.kind==ScopeKind.function&&env.kindOf y.1==some NameKind.cell)then NameKind.cell else y.2):=by
  show(sc.names.map λ(n,k)=>if(k==NameKind.free&&env.scope.kind==ScopeKind.function&&env.kindOf n==some NameKind.cell)then(n,NameKind.cell)else(n,k))=_;apply List.map_congr_left;rintro⟨n,k⟩ _;dsimp only;split<;>rfl
 rw[e];exact jP (f:=λn k=>if(k==NameKind.free&&env.scope.kind==ScopeKind.function&&env.kindOf n==some NameKind.cell)then NameKind.cell else k)
theorem qL (o:SnOk X S) {sc:Scope} (h:iQ S sc=true) (C:Addr) (s:Shared) (H:Hp) (fp:List Addr):SnOk (cxC X sc C s H fp) {S with nm:=sc.names} where
 g:=o.g
 N:=o.N
 nd:=o.nd
 calm:=o.calm
 room:=o.room
 loc:=λx q=>by
  show(relabel sc X.env).names.lookup x=_;rw[fw,show sc.names.lookup x=some .local from q];rfl
 cel:=λx q=>by
  exfalso;have q':sc.names.lookup x=some .cell:=q;exact(sT o h).nocell _ (PySem.mem_of_lookup q') rfl
 fre:=λx q=>by
  show(relabel sc X.env).names.lookup x=_\/(relabel sc X.env).names.lookup x=_;rw[fw,show sc.names.lookup x=some .free from q];dsimp only[Option.map];split
  ·exact .inl rfl
  ·exact .inr rfl
 glo:=λx q=>by
  show(relabel sc X.env).names.lookup x=_;rw[fw,show sc.names.lookup x=some .globalImplicit from q];rfl
end
def yB:Const->Vv->Option D
 |.int i=>λ_=>some (.int i)
 |.bool b=>λ_=>some (.bl b)
 |.none=>λ_=>some .non
 |.str x=>λ_=>some (.str x)
 |_=>λ_=>none
def noV {α:Type}:Vv->Option α:=λ_=>none
def sU:Expr->Bool
 |.UnaryOp .Not _ _=>false
 |.BoolOp _ _ _=>false
 |.IfExp _ _ _ _=>false
 |.Compare _ _ _ _=>false
 |_=>true
theorem plainT_ok (h:sU e=true):∀whole,isTrue e env whole=(do let v<-whole;standAt e.pos;holding [v] (truthy v)):=by
 intro whole;cases e with
 |UnaryOp op a pos=>cases op<;>first|rfl|cases h
 |BoolOp _ _ _=>cases h
 |IfExp _ _ _ _=>cases h
 |Compare _ _ _ _=>cases h
 |_=>rfl
def yC:Expr->Bool
 |.Slice _ _ _ _=>false
 |_=>true
theorem noSl_ok (h:yC b=true):kn b:=by
 intro o i;cases b<;>first|rfl|cases h
def lsB:Expr->Bool
 |.BinOp _ .Add (.ListComp _ _ _ _) _=>true
 |.BinOp (.List _ _) .Mult _ _=>true
 |_=>false
def Ld:Expr->Bool
 |.Tuple _ _ _=>true
 |_=>false
mutual
noncomputable def rd:Nat->Sn->Expr->Vv->Option D
 |0=>λ_ _=>noV
 |n+1=>λS e=>match e with
  |.Constant c _ _=>yB c
  |.Name x _=>nmF S x
  |.BinOp a op b _=>if lsB e thenλY=>(rf n S e Y).map D.lst else IN op (rd n S a) (rd n S b)
  |.UnaryOp op a _=>(match op with
   |.Not=>Be (rd n S a)
   |.USub=>λY=>(rd n S a Y).bind xl
   |_=>noV)
  |.BoolOp op vs p=>rl n S op vs p
  |.Compare a ops bs _=>(match ops,bs with
   |[op],[b]=>vY op b (rd n S a) (rd n S b)
   |[.LtE,.LtE],[b,c]=>if gP c then dt leD leD (rd n S a) (rd n S b) (rd n S c)else noV
   |_,_=>noV)
  |.IfExp c a b _=>ifF (rq n S c) (rd n S a) (rd n S b)
  |.Tuple es _ _=>λY=>(ck (rx n S es Y)).bind λds=>some (.tup ds)
  |.Attribute o m _=>(match o with
   |.Name x _=>λY=>(nmF S x Y).bind (mY S.G.fl m)
   |_=>noV)
  |.Subscript a b _=>(match b with
   |.Slice lo hi none _=>orO (qx (rd n S a) (ro n S lo) (ro n S hi)) λY=>(oQ (rd n S a) (ro n S lo) (ro n S hi) Y).map D.lst
   |b=>if yC b then aa ixD (rd n S a) (rd n S b)else noV)
  |.Call f as ks pos=>(match f,as,ks with
   |.Name f _,a::as,[]=>orO (if(a::as).all aG thenλY=>(rx n S (a::as) Y).bind (yt S f)else noV) λY=>(rf n S e Y).map D.lst
   |.Attribute o m apos,[a],[]=>(match o with
    |.Name x _=>if m=("index":Str)then(if aG a&&(apos.endLine==pos.line)then B4 (nmF S x) (rd n S a)else noV)else noV
    |_=>noV)
   |_,_,_=>noV)
  |_=>λY=>(rf n S e Y).map D.lst
noncomputable def rl:Nat->Sn->BoolOp->List Expr->Pos->Vv->Option D
 |0=>λ_ _ _ _=>noV
 |n+1=>λS op vs p=>match op,vs with
  |_,[a]=>rd n S a
  |.And,a::b::r=>mW (rd n S a) (rl n S .And (b::r) p)
  |_,_=>noV
noncomputable def rq:Nat->Sn->Expr->Vv->Option Bool
 |0=>λ_ _=>noV
 |n+1=>λS e=>match e with
  |.UnaryOp op a _=>(match op with
   |.Not=>dG (rq n S a)
   |_=>noV)
  |.BoolOp op vs p=>rb n S op vs p
  |.Compare a ops bs _=>(match ops,bs with
   |[op],[b]=>ar (vY op b (rd n S a) (rd n S b))
   |[.LtE,.LtE],[b,c]=>if gP c then ar (dt leD leD (rd n S a) (rd n S b) (rd n S c))else noV
   |_,_=>noV)
  |e=>if sU e thenλY=>(rd n S e Y).bind vB else noV
noncomputable def rb:Nat->Sn->BoolOp->List Expr->Pos->Vv->Option Bool
 |0=>λ_ _ _ _=>noV
 |n+1=>λS op vs p=>match op,vs with
  |.And,[a]=>rq n S a
  |.Or,[a]=>rq n S a
  |.And,a::b::r=>lq (rq n S a) (rb n S .And (b::r) p)
  |.Or,a::b::r=>orQ (rq n S a) (rb n S .Or (b::r) p)
  |_,_=>noV
noncomputable def rx:Nat->Sn->List Expr->Vv->Option (List D)
 |0=>λ_ _=>noV
 |n+1=>λS es=>match es with
  |[]=>λ_=>some []
  |a::as=>if aG a then ag (rd n S a) (rx n S as)else noV
noncomputable def ro:Nat->Sn->Option Expr->Vv->Option (Option Int)
 |0=>λ_ _=>noV
 |n+1=>λS e=>match e with
  |none=>λ_=>some none
  |some e=>bv (rd n S e)
noncomputable def rf:Nat->Sn->Expr->Vv->Option (List D)
 |0=>λ_ _=>noV
 |n+1=>λS e=>match e with
  |.List es _=>λY=>ck (rx n S es Y)
  |.ListComp elt gs sc _=>(match gs with
   |[g]=>if iQ S sc&&gP g.iter&&decide (g.is_async=0)then
    au (sQ S.N sc.names) (rj n S g.target g.iter) (tgV {S with nm:=sc.names} n g.target) (rqs n {S with nm:=sc.names} g.ifs) (rd n {S with nm:=sc.names} elt)else noV
   |_=>noV)
  |.Subscript a b _=>(match b with
   |.Slice lo hi none _=>oQ (rd n S a) (ro n S lo) (ro n S hi)
   |_=>noV)
  |.BinOp a op b _=>if lsB e then(match op with
   |.Add=>xL (rd n S a) (rd n S b)
   |.Mult=>B3 (rf n S a) (rd n S b)
   |_=>noV)else noV
  |.Call f as ks _=>(match f,as,ks with
   |.Name f _,[a],[]=>if f=("list":Str)/\glS S f=true/\S.G.no f=true/\aG a=true then orO (rv n S a) (λY=>(rx n S [a] Y).bind nQ)
    else if f=("sorted":Str)/\glS S f=true/\S.G.no f=true/\aG a=true thenλY=>(rx n S [a] Y).bind cM else noV
   |_,_,_=>noV)
  |_=>noV
noncomputable def rv:Nat->Sn->Expr->Vv->Option (List D)
 |0=>λ_ _=>noV
 |n+1=>λS e=>match e with
  |.Call f as ks _=>(match f,as,ks with
   |.Name f _,[a],[]=>if f=("range":Str)/\glS S f=true/\S.G.no f=true/\glS S "list"=true/\S.G.no "list"=true/\aG a=true thenλY=>(rx n S [a] Y).bind lrD else noV
   |_,_,_=>noV)
  |_=>noV
noncomputable def rqs:Nat->Sn->List Expr->Vv->Option Bool
 |0=>λ_ _=>noV
 |n+1=>λS es=>match es with
  |[]=>λ_=>some true
  |[c]=>rq n S c
  |_=>noV
noncomputable def rj:Nat->Sn->Expr->Expr->Vv->Option (List D)
 |0=>λ_ _ _=>noV
 |n+1=>λS tg e=>orO (match e with
  |.Call f as ks _=>(match f,as,ks with
   |.Name f _,[a],[]=>if f=("range":Str)/\glS S f=true/\S.G.no f=true/\aG a=true thenλY=>(rx n S [a] Y).bind j8
    else if f=("enumerate":Str)/\glS S f=true/\S.G.no f=true/\aG a=true/\Ld tg=true thenλY=>(rx n S [a] Y).bind uv else noV
   |_,_,_=>noV)
  |_=>noV) λY=>(rd n S e Y).bind seqD
end
section
variable {X:Cx} {S:Sn} {e:Expr} {es:List Expr} {pos:Pos}
theorem PP.u (h:PP X e f) (hc:bK e=false):PPu X e f:=λO Y=>(h O Y).pu hc
theorem PPu.p (h:PPu X e f):PP X e f:=λO Y=>(h O Y).1
theorem PF.u (h:PF X e f) (hc:bK e=false):PFu X e f:=λO Y=>(h O Y).pu hc
theorem qM:PQ X e noV:=λO Y pins s σ H Q I ⟨_,_,q,_⟩=>by cases q
theorem yD:PWQ X e noV:=λO Y wh pins s σ H Q I ⟨_,_,q,_⟩=>by cases q
theorem DC:PX X es noV:=λO Y pos pins s σ H Q I ⟨_,_,q,_⟩=>by cases q
theorem yE:PQs X es noV:=λO Y pins s σ H Q I ⟨_,_,q,_⟩=>by cases q
theorem uI:PJ X tg e noV:=λO Y pins s σ H R I ⟨_,_,q,_⟩=>by cases q
theorem Fw {e}:PPo X e noV:=λO Y pins s σ H Q I ⟨_,_,q,_⟩=>by cases q
theorem IR (h1:PJ X tg e f) (h2:PJ X tg e g):PJ X tg e (orO f g):=λO Y pins s σ H R I ⟨E,ds,q,k⟩=>by
 rcases or_some q with q|q
 ·exact h1 O Y pins s σ H R I ⟨E,ds,q,k⟩
 ·exact h2 O Y pins s σ H R I ⟨E,ds,q,k⟩
theorem B7 {K} (h:tP K O Y (o.map D.lst) σ H Q):tPF K O Y o σ H Q:=by
 obtain⟨E,d,e,k⟩:=h;cases o with
 |none=>cases e
 |some ds=>
  cases e;refine⟨E,ds,rfl,λp xs H' s hp l=>?_⟩;have hO:=(E.grow s).fresh hp;exact k _ _ (s.trans (Same.new hp)) ⟨p,xs,rfl,.of (by rw[aM hO,ai]),IsL.mono (Same.new hp).msk _ _ l⟩
theorem PFu.pp (h:PFu X e f):PPu X e (λY=>(f Y).map D.lst):=λO Y=>(h O Y).imp λσ H Q q=>B7 q
theorem Fy (h1:PFu X e f) (h2:PFu X e g):PFu X e (orO f g):=λO Y=>(h1 O Y).by2 (h2 O Y) λσ H Q ⟨E,ds,q,k⟩=>by
 rcases or_some q with q|q;all_goals grind
theorem yF (hc:X.calm=true) (C:CSc X scope ks) (hi:PJ X tg iter fi) (hg:∀C s H fp,PGD (cxC X scope C s H fp) ks tg g) (ht:∀C s H fp,PQs (cxC X scope C s H fp) ifs ft) (he:∀C s H fp,PP (cxC X scope C s H fp) elt fe) (hs:∀x,foldedSetIterable iter X.env x=pure x):PFu X (.ListComp elt [⟨tg,iter,ifs,0⟩] scope pos) (au ks fi g ft fe):=λO Y=>
 (ul hc C (hi O Y) (λC s H fp=>PG.ex λz:(Addr->Bool)×Vv×D=>hg C s H fp z.1 z.2.1 z.2.2) (λC s H fp=>PTs.ex λz:(Addr->Bool)×Vv=>ht C s H fp z.1 z.2) (λC s H fp=>PE.ex λz:(Addr->Bool)×Vv=>he C s H fp z.1 z.2) hs).imp λσ H Q h=>xb h
theorem B8 (hc:X.calm=true) (C:CSc X scope ks) (hi:PJ X tg iter fi) (hg:∀C s H fp,PGD (cxC X scope C s H fp) ks tg g) (ht:∀C s H fp,PQs (cxC X scope C s H fp) ifs ft) (he:∀C s H fp,PFr (cxC X scope C s H fp) elt fe) (hs:∀x,foldedSetIterable iter X.env x=pure x):PFr X (.ListComp elt [⟨tg,iter,ifs,0⟩] scope pos) (λY=>(au ks fi g ft fe Y).bind λds=>some (.lst ds)):=λY=>
 (ul hc C (hi noO Y) (λC s H fp=>PG.ex λz:(Addr->Bool)×Vv×D=>hg C s H fp z.1 z.2.1 z.2.2) (λC s H fp=>PTs.ex λz:(Addr->Bool)×Vv=>ht C s H fp z.1 z.2) (λC s H fp=>PE.ex λz:Vv=>(he C s H fp z).1) hs).imp λσ H Q h=>sv h
theorem B9 (c:Const):PP X (.Constant c j pos) (yB c):=by
 cases c<;>first|exact pp_int|exact pp_bl|exact pp_non|exact pp_str|exact pp_no
structure Snd (n:Nat):Prop where
 rd:∀X S,SnOk X S->∀e,PPu X e (rd n S e)
 rl:∀X S,SnOk X S->∀op vs p,PP X (.BoolOp op vs p) (rl n S op vs p)
 rq:∀X S,SnOk X S->∀e,PQ X e (rq n S e)
 rb:∀X S,SnOk X S->∀op vs p,PWQ X (.BoolOp op vs p) (rb n S op vs p)
 rx:∀X S,SnOk X S->∀es,PX X es (rx n S es)
 ro:∀X S,SnOk X S->∀e,PPo X e (ro n S e)
 rf:∀X S,SnOk X S->∀e,PFu X e (rf n S e)
 rv:∀X S,SnOk X S->∀e p q,PFu X (.Call (.Name "list" p) [e] [] q) (rv n S e)
 rqs:∀X S,SnOk X S->∀es,PQs X es (rqs n S es)
 rj:∀X S,SnOk X S->∀tg e,PJ X tg e (rj n S tg e)
theorem lastM (h:gP c=true):lastMarks [.LtE,.LtE] [b,c]=false:=noSet_mark h
theorem Le (n:Nat) (I:Snd n) (o:SnOk X S) (e:Expr):PPu X e (rd (n+1) S e):=by
 have P:=λe=>(I.rd X S o e).p;have no:PPu X e noV:=oU;unfold L2.rd;split
 ·exact(B9 _).u rfl
 ·exact(sP o _).u rfl
 ·split
  ·exact(I.rf X S o _).pp
  ·exact(IP _ (P _) (P _)).u rfl
 ·split
  ·exact(EB (P _)).u rfl
  ·exact(EM (P _)).u rfl
  ·exact no
 ·exact(I.rl X S o _ _ _).u rfl
 ·split
  ·exact(IQ o _ (P _) (P _)).u rfl
  ·split
   ·rename_i h;exact(pp_lele (P _) (P _) (P _) (lastM h)).u rfl
   ·exact no
  ·exact no
 ·exact(Ii (I.rq X S o _) (P _) (P _)).u rfl
 ·exact(EE (I.rx X S o _)).u rfl
 ·split
  ·exact(E9 (sP o _) (λC Ca h1 h2=>o.g.fl C _ Ca h1 h2) rfl).u rfl
  ·exact no
 ·split
  ·exact xv ((EQ (P _) (I.ro X S o _) (I.ro X S o _)).u rfl) ((xu (P _) (I.ro X S o _) (I.ro X S o _)).u rfl).pp
  ·split
   ·rename_i h;exact(pp_ix (P _) (P _) (noSl_ok h)).u rfl
   ·exact no
 ·split
  ·refine xv ?_ (I.rf X S o _).pp;split
   ·rename_i h;exact(k_call o _ (I.rx X S o _) h).u rfl
   ·exact oU
  ·split
   ·split
    ·rename_i hm;subst hm;split
     ·rename_i h;rw[and_eq_true]at h;exact(yp (sP o _) (P _) (star1 h.1) h.2).u rfl
     ·exact no
    ·exact no
   ·exact no
  ·exact no
 ·exact(I.rf X S o _).pp
theorem Lf (n:Nat) (I:Snd n) (o:SnOk X S) (op:BoolOp) (vs:List Expr) (p:Pos):PP X (.BoolOp op vs p) (rl (n+1) S op vs p):=by
 have P:=λe=>(I.rd X S o e).p;unfold L2.rl;split
 ·exact Ez (P _)
 ·exact EA (P _) (I.rl X S o _ _ _)
 ·exact pp_no
theorem Lg (n:Nat) (I:Snd n) (o:SnOk X S) (e:Expr):PQ X e (rq (n+1) S e):=by
 have P:=λe=>(I.rd X S o e).p;unfold L2.rq;split
 ·split
  ·exact EC (I.rq X S o _)
  ·exact qM
 ·exact(I.rb X S o _ _ _).pq
 ·split
  ·exact Fu o _ (P _) (P _)
  ·split
   ·rename_i h;exact pq_lele (P _) (P _) (P _) (lastM h)
   ·exact qM
  ·exact qM
 ·split
  ·rename_i h;exact pq_val (P _) (plainT_ok h)
  ·exact qM
theorem Lh (n:Nat) (I:Snd n) (o:SnOk X S) (op:BoolOp) (vs:List Expr) (p:Pos):PWQ X (.BoolOp op vs p) (rb (n+1) S op vs p):=by
 unfold L2.rb;split
 ·exact pw_and1D (I.rq X S o _)
 ·exact pw_or1D (I.rq X S o _)
 ·exact pw_andD (I.rq X S o _) (I.rb X S o _ _ _)
 ·exact pw_orD (I.rq X S o _) (I.rb X S o _ _ _)
 ·exact yD
theorem Li (n:Nat) (I:Snd n) (o:SnOk X S) (es:List Expr):PX X es (rx (n+1) S es):=by
 unfold L2.rx;split
 ·exact ED
 ·split
  ·rename_i h;exact px_cons (I.rd X S o _).p (I.rx X S o _) (star1 h)
  ·exact DC
theorem Lj (n:Nat) (I:Snd n) (o:SnOk X S) (e:Option Expr):PPo X e (ro (n+1) S e):=by
 unfold L2.ro;split
 ·exact xp
 ·exact xq (I.rd X S o _).p
theorem IS (n:Nat) (I:Snd n) (o:SnOk X S) (es:List Expr):PQs X es (rqs (n+1) S es):=by
 unfold L2.rqs;split
 ·exact Bm
 ·exact Bn (I.rq X S o _)
 ·exact yE
theorem Fz:bootBuiltins "list"=some (.type "list"):=by decide+kernel
theorem Lk (n:Nat) (I:Snd n) (o:SnOk X S) (e:Expr):PFu X e (rf (n+1) S e):=by
 have P:=λe=>(I.rd X S o e).p;unfold L2.rf;split
 ·exact(EF (I.rx X S o _)).u rfl
 ·rename_i elt gs sc p;split
  ·rename_i g;split
   ·rename_i h;rw[and_eq_true,and_eq_true]at h;obtain⟨tg,iter,ifs,as⟩:=g;have ha:as=0:=of_decide_eq_true h.2;subst ha;have hb:=qL o h.1.1;exact yF o.calm (sT o h.1.1) (I.rj X S o _ _) (λC s H fp=>(DB (hb C s H fp) n).1 tg) (λC s H fp=>I.rqs _ _ (hb C s H fp) _) (λC s H fp=>(I.rd _ _ (hb C s H fp) _).p) (cq h.1.2)
   ·exact cQ
  ·exact cQ
 ·split
  ·exact(xu (P _) (I.ro X S o _) (I.ro X S o _)).u rfl
  ·exact cQ
 ·split
  ·split
   ·exact(Ff (P _) (P _)).u rfl
   ·exact(Fs (λO Y=>(I.rf X S o _ O Y).1) (P _)).u rfl
   ·exact cQ
  ·exact cQ
 ·split
  ·split
   ·rename_i h;obtain⟨rfl,h1,h2,h3⟩:=h;obtain⟨ok,gl⟩:=bn o h1;exact Fy (I.rv X S o _ _ _) ((Bg gl (o.g.no _ h2) Fz (I.rx X S o _) (star1 h3)).u rfl)
   ·split
    ·rename_i h;obtain⟨rfl,h1,h2,h3⟩:=h;obtain⟨ok,gl⟩:=bn o h1;exact(yg o.room gl (o.g.no _ h2) (I.rx X S o _) (star1 h3)).u rfl
    ·exact cQ
  ·exact cQ
 ·exact cQ
theorem Ll (n:Nat) (I:Snd n) (o:SnOk X S) (e:Expr) (p q:Pos):PFu X (.Call (.Name "list" p) [e] [] q) (rv (n+1) S e):=by
 unfold L2.rv;split
 ·split
  ·split
   ·rename_i h;obtain⟨rfl,h1,h2,h3,h4,h5⟩:=h;obtain⟨ok,gl⟩:=bn o h1;obtain⟨ok2,gl2⟩:=bn o h3;exact(BQ o.calm gl2 (o.g.no _ h4) gl (o.g.no _ h2) (I.rx X S o _) (star1 h5)).u rfl
   ·exact cQ
  ·exact cQ
 ·exact cQ
theorem Lm (n:Nat) (I:Snd n) (o:SnOk X S) (tg e:Expr):PJ X tg e (rj (n+1) S tg e):=by
 unfold L2.rj;refine IR ?_ (EH (I.rd X S o _).p);split
 ·split
  ·split
   ·rename_i h;obtain⟨rfl,h1,h2,h3⟩:=h;obtain⟨ok,gl⟩:=bn o h1;exact vF gl (o.g.no _ h2) (I.rx X S o _) (star1 h3)
   ·split
    ·rename_i h;obtain⟨rfl,h1,h2,h3,h4⟩:=h;obtain⟨ok,gl⟩:=bn o h1;cases tg<;>first
      |exact Fe gl (o.g.no _ h2) (I.rx X S o _) (star1 h3)
      |cases h4
    ·exact uI
  ·exact uI
 ·exact uI
theorem sound:∀n,Snd n
 |0=>⟨λ_ _ _ _=>oU,λ_ _ _ _ _ _=>pp_no,λ_ _ _ _=>qM,λ_ _ _ _ _ _=>yD,λ_ _ _ _=>DC,λ_ _ _ _=>Fw,λ_ _ _ _=>cQ,λ_ _ _ _ _ _=>cQ,λ_ _ _ _=>yE,λ_ _ _ _ _=>uI⟩
 |n+1=>⟨λX S o e=>Le n (sound n) o e,λX S o op vs p=>Lf n (sound n) o op vs p,λX S o e=>Lg n (sound n) o e,λX S o op vs p=>Lh n (sound n) o op vs p,λX S o es=>Li n (sound n) o es,λX S o e=>Lj n (sound n) o e,
  λX S o e=>Lk n (sound n) o e,λX S o e p q=>Ll n (sound n) o e p q,λX S o es=>IS n (sound n) o es,λX S o tg e=>Lm n (sound n) o tg e⟩
end
def uJ:Expr->Option Const
 |.Constant c _ _=>some c
 |_=>none
theorem ip (h:uJ e=some c):∃j p,e=.Constant c j p:=by
 cases e<;>first|(cases h;exact⟨_,_,rfl⟩)|cases h
mutual
noncomputable def fr:Nat->Sn->Expr->Vv->Option D
 |0=>λ_ _=>noV
 |n+1=>λS e=>orO (λY=>lfO (rd n S e Y)) (orO (λY=>oS (rf n S e Y)) (match e with
  |.List es _=>λY=>(ck (frl n S es Y)).bind λds=>some (.lst ds)
  |.Tuple es _ _=>λY=>(ck (frl n S es Y)).bind λds=>some (.tup ds)
  |.Dict ks vs _=>(match ks,vs with
   |[],[]=>λ_=>some (.dct [] [])
   |[some a],[b]=>(match uJ a,uJ b with
    |some (.int k),some (.bool b)=>λ_=>some (.dct [.inl k] [.bl b])
    |_,_=>noV)
   |_,_=>noV)
  |.ListComp elt gs sc _=>(match gs with
   |[g]=>if iQ S sc&&gP g.iter&&decide (g.is_async=0)then
    λY=>(au (sQ S.N sc.names) (rj n S g.target g.iter) (tgV {S with nm:=sc.names} n g.target) (rqs n {S with nm:=sc.names} g.ifs) (fr n {S with nm:=sc.names} elt) Y).bind λds=>some (.lst ds)else noV
   |_=>noV)
  |.Call f as ks _=>(match f,as,ks with
   |.Name f _,a::as,[]=>if(a::as).all aG thenλY=>(rx n S (a::as) Y).bind (yu S f)else noV
   |_,_,_=>noV)
  |_=>noV))
noncomputable def frl:Nat->Sn->List Expr->Vv->Option (List D)
 |0=>λ_ _=>noV
 |n+1=>λS es=>match es with
  |[]=>λ_=>some []
  |a::as=>if aG a then ag (fr n S a) (frl n S as)else noV
end
section
variable {X:Cx} {S:Sn} {e:Expr} {es:List Expr} {pos:Pos}
theorem sV:qy X es noV:=λY pos pins s σ H Q I ⟨_,_,q,_⟩=>by cases q
theorem Ln:∀n,(∀X S,SnOk X S->∀e,PFr X e (fr n S e))/\∀X S,SnOk X S->∀es,qy X es (frl n S es):=by
 intro n;induction n with
 |zero=>exact⟨λX S o e=>iM,λX S o es=>sV⟩
 |succ n ih=>
  refine⟨λX S o e=>?_,λX S o es=>?_⟩
  ·unfold fr;refine Dq (Dp ((sound n).rd X S o e)) (Dq (ES ((sound n).rf X S o e)) ?_);split
   ·exact xw (ih.2 X S o _)
   ·exact ET (ih.2 X S o _)
   ·split
    ·exact Fh
    ·split
     ·rename_i k b h1 h2;obtain⟨_,_,rfl⟩:=ip h1;obtain⟨_,_,rfl⟩:=ip h2;exact B0
     ·exact iM
    ·exact iM
   ·rename_i elt gs sc p;split
    ·rename_i g;split
     ·rename_i h;rw[and_eq_true,and_eq_true]at h;obtain⟨tg,iter,ifs,as⟩:=g;have ha:as=0:=of_decide_eq_true h.2;subst ha;have hb:=qL o h.1.1;exact B8 o.calm (sT o h.1.1) ((sound n).rj X S o _ _) (λC s H fp=>(DB (hb C s H fp) n).1 tg) (λC s H fp=>(sound n).rqs _ _ (hb C s H fp) _) (λC s H fp=>ih.1 _ _ (hb C s H fp) _) (cq h.1.2)
     ·exact iM
    ·exact iM
   ·split
    ·split
     ·rename_i h;exact k_callR o _ ((sound n).rx X S o _) h
     ·exact iM
    ·exact iM
   ·exact iM
  ·unfold frl;split
   ·exact um
   ·split
    ·rename_i h;exact frs_cons (ih.1 X S o _) (ih.2 X S o _) (star1 h)
    ·exact sV
end
def ev (n:Nat) (S:Sn) (e:Expr):Ev->Option (Sl×Ev):=orO (dS (fr n S e)) (orO (uo (rf n S e)) (orO (Bv (rd n S e)) (EU (rd n S e))))
theorem vZ (n:Nat) (o:SnOk X S) (e:Expr):PEv X e (ev n S e):=uq (Dr ((Ln n).1 X S o e)) (uq (EV ((sound n).rf X S o e)) (uq (Iv ((sound n).rd X S o e)) (Iw ((sound n).rd X S o e))))
structure TnOk (X:Cx) (S:Sn):Prop where
 s:SnOk X S
 fn:∀x,X.fn x=true
 nox:X.xe=λ_ _=>False
 nm:X.env.scope.names=S.nm
def n9 (S:Sn) (x:Str):Option Nat:=if eD x&&(decide (S.nm.lookup x=some .local)||decide (S.nm.lookup x=some .cell))then oY S.N x else none
def noO':Ev->Option Out:=λ_=>none
def bL:Expr->Option Str
 |.Name x _=>some x
 |_=>none
def exR (n:Nat) (S:Sn):Option Expr->Ev->Option Out
 |none=>λ_=>some (.rt (.deep,.non))
 |some e=>match bL e with
  |some x=>(match bq S x with|some i=>λY=>(gI Y i).bind λs=>some (.rt s)|none=>fQ (ev n S e))
  |none=>fQ (ev n S e)
def evN (n:Nat) (S:Sn) (e:Expr):Ev->Option (Sl×Ev):=match(bL e).bind (bq S)with
 |some j=>orO (mvE j) (ev n S e)
 |none=>ev n S e
def Cd (n:Nat) (S:Sn) (t e:Expr):Ev->Option Out:=match t with
 |.Name x _=>(match n9 S x with|some i=>ak i (evN n S e)|none=>noO')
 |.Subscript o k _=>(match bL o with
  |some x=>if yC k&&!bK e then(match bq S x with|some i=>xS i (rd n S k) (rd n S e)|none=>noO')else noO'
  |none=>noO')
 |_=>noO'
def exA (n:Nat) (S:Sn) (ts:List Expr) (e:Expr):Ev->Option Out:=match ts with
 |[t]=>Cd n S t e
 |_=>noO'
def Ce:Expr->Option (Str×Expr)
 |.Call f as ks cp=>(match f,as,ks with
  |.Attribute o m ap,[e],[]=>if m=("pop":Str)/\aG e=true/\(ap.endLine==cp.line)=true then(bL o).bind λy=>some (y,e)else none
  |_,_,_=>none)
 |_=>none
def FA (n:Nat) (S:Sn) (i:Nat) (m:Str) (e:Expr):Ev->Option Out:=if m=("append":Str)then(match Ce e with
 |some (y,a)=>(match bq S y with|some j=>gpF i j (rd n S a)|none=>noO')
 |none=>oX i (ev n S e))else if m=("extend":Str)then xN i (rd n S e)else if m=("pop":Str)then yh i (rd n S e)else noO'
def exM (n:Nat) (S:Sn) (o:Expr) (m:Str) (e:Expr):Ev->Option Out:=match o with
 |.Name x _=>(match bq S x with|some i=>FA n S i m e|none=>noO')
 |.Subscript o k _=>(match(bL o).bind (bq S)with|some i=>if m=("append":Str)/\yC k=true then vQ i (rd n S k) (rd n S e)else noO'|none=>noO')
 |_=>noO'
def uK:Expr->Option (Expr×Str×Pos×Expr×Pos)
 |.Call f as ks cpos=>(match f,as,ks with
  |.Attribute o m apos,[e],[]=>some (o,m,apos,e,cpos)
  |_,_,_=>none)
 |_=>none
def Cf:Expr->Option (Expr×Pos×Expr×Expr×Pos)
 |.Call f as ks cpos=>(match f,as,ks with
  |.Attribute o m apos,[a,b],[]=>if m=("insert":Str)then some (o,apos,a,b,cpos)else none
  |_,_,_=>none)
 |_=>none
def exI (n:Nat) (S:Sn) (o a b:Expr):Ev->Option Out:=match bL o with
 |some x=>(match bq S x with|some i=>pi i (rd n S a) (rd n S b)|none=>noO')
 |none=>noO'
def exV (n:Nat) (S:Sn) (e:Expr):Ev->Option Out:=match Cf e with
 |some (o,apos,a,b,cpos)=>if aG a&&aG b&&(apos.endLine==cpos.line)then exI n S o a b else noO'
 |none=>if bK e then noO' else lC (rd n S e)
def exX (n:Nat) (S:Sn) (e:Expr):Ev->Option Out:=match uK e with
 |some (o,m,apos,a,cpos)=>if aG a&&(apos.endLine==cpos.line)then exM n S o m a else noO'
 |none=>exV n S e
def IT:Expr->Bool
 |.Subscript _ _ _=>true
 |_=>false
def IU:List Stmt->Bool
 |st::_=>(match st with
  |.Assign ts _ _=>ts.all IT
  |_=>false)
 |_=>false
def yG (S:Sn) (iter:Expr) (body:List Stmt):Option Nat:=if IU body then(bL iter).bind (bq S)else none
mutual
noncomputable def ex:Nat->Sn->Stmt->Ev->Option Out
 |0=>λ_ _=>noO'
 |n+1=>λS st=>match st with
  |.Return v _=>exR n S v
  |.Assign ts e _=>exA n S ts e
  |.If c a b _=>ifS (rq n S c) (exs n S a) (exs n S b)
  |.For tg iter body els _=>if els.isEmpty&&gP iter then(match yG S iter body with
   |some i=>yj i (tgE S n tg) (exs n S body)
   |none=>orO (vL (rj n S tg iter) (tgE S n tg) (exs n S body)) (EY (rj n S tg iter) (tgE S n tg) (exs n S body)))else noO'
  |.While c body els _=>if els.isEmpty then wlF (rq n S c) (exs n S body)else noO'
  |.Expr e _=>exX n S e
  |_=>noO'
noncomputable def exs:Nat->Sn->List Stmt->Ev->Option Out
 |0=>λ_ _=>noO'
 |n+1=>λS st=>match st with
  |[]=>λY=>some (.nx Y)
  |s::r=>ae (ex n S s) (exs n S r)
end
section
variable {X:Cx} {S:Sn}
theorem iq (o:TnOk X S) (h:n9 S x=some i):eD x=true/\Loc X.env.scope x/\X.N[i]?=some x:=by
 unfold n9 at h;split at h
 ·rename_i c;rw[and_eq_true,Bool.or_eq_true]at c;refine⟨c.1,?_,by rw[o.s.N];exact eQ h⟩;rcases c.2 with c|c
  ·exact .inl (o.s.loc _ (of_decide_eq_true c))
  ·exact .inr (o.s.cel _ (of_decide_eq_true c))
 ·cases h
theorem swaps_name (e:Expr) (x:Str) (p:Pos) (l:Nat) (env:Env):swapsWith e (some (.Name x p)) l env=pure false\/(swapsWith e (some (.Name x p)) l env=pure true/\env.scope.names.lookup x=some .local):=by
 have key:∀ (b1 b2 b3:Bool),(pure (b1&&(env.kindOf x==some .local)&&b2&&b3):Sem Bool)=pure false\/((pure (b1&&(env.kindOf x==some .local)&&b2&&b3):Sem Bool)=pure true/\env.scope.names.lookup x=some .local):=λb1 b2 b3=>by
  cases hk:(env.kindOf x==some NameKind.local)with
  |false=>left;cases b1<;>rfl
  |true=>
   have hl:env.scope.names.lookup x=some .local:=by
    have hk':env.kindOf x=some .local:=by simpa using hk
    exact hk'
   cases b1<;>cases b2<;>cases b3<;>first|exact .inl rfl|exact .inr ⟨rfl,hl⟩
 cases e<;>first
  |exact .inl rfl
  |exact key _ _ _
theorem bw {st}:PR X st noO':=xy
theorem cR (h:eD x=true):(x==("__debug__":Str))=false/\(x==("__classdict__":Str))=false:=⟨(bJ h).1,(bJ h).2.1⟩
theorem FB (h:yC ik=true):∀v,assign (.Subscript (.Name x px) ik spos) env v=(do
  let ov<-holding [v] (eval (.Name x px) env)
  let iv<-holding [v,ov] (eval ik env)
  standAt spos
  holding [v,ov,iv] (setItem ov iv v)
  release [v,ov,iv] []):=by
 intro v
 cases ik<;>first|rfl|cases h
theorem Cg (h:bK e=false):swapsWithSole [t] e l env=pure false:=by
 show swapsWith e (some t) l env=pure false;exact swaps_no h _ _ _
theorem Ch:swappedStores [.Subscript (.Name x px) ik spos] e env=pure none:=by
 cases e<;>rfl
theorem aJ (h:bL e=some x):∃p,e=.Name x p:=by
 cases e<;>first|(cases h;exact⟨_,rfl⟩)|cases h
theorem sX (h:uK e=some (o,m,ap,a,cp)):e=.Call (.Attribute o m ap) [a] [] cp:=by
 unfold uK at h;grind
theorem IV (n:Nat) (o:TnOk X S) (v:Option Expr):PR X (.Return v pos) (exR n S v):=by
 cases v with
 |none=>exact Bw
 |some e=>
  unfold exR;dsimp only;cases h:bL e with
  |none=>exact xz (vZ n o.s _)
  |some x=>
   obtain⟨p,rfl⟩:=aJ h;dsimp only;cases hi:bq S x with
   |none=>exact xz (vZ n o.s _)
   |some i=>
    obtain⟨h1,h2,h3,_⟩:=aR o.s hi;obtain⟨a,b⟩:=cR h1;exact sy i h3 h2 a b
theorem s_evN (n:Nat) (o:SnOk X S) (e:Expr):PEv X e (evN n S e):=by
 unfold evN;split
 ·rename_i j h;obtain⟨x,h1,h2⟩:=bind_some h;obtain⟨p,rfl⟩:=aJ h1;obtain⟨g1,g2,g3,_⟩:=aR o h2;exact uq (IL g3 g2 (cR g1).1 (cR g1).2) (vZ n o _)
 ·exact vZ n o e
theorem FC (n:Nat) (o:TnOk X S) (t e:Expr):PR X (.Assign [t] e pos) (Cd n S t e):=by
 have P:=λe=>((sound n).rd X S o.s e).p;cases t with
 |Name x p=>
  unfold Cd;dsimp only;cases hi:n9 S x with
  |none=>exact bw
  |some i=>
   obtain⟨h1,h2,h3⟩:=iq o hi;exact xA (by rw[o.s.N];exact o.s.nd) h3 h2 (s_evN n o.s _) (.inl (o.fn _)) (swaps_name _ _ _ _ _)
 |Subscript ob k p=>
  unfold Cd;dsimp only;cases hn:bL ob with
  |none=>exact bw
  |some x=>
   obtain⟨px,rfl⟩:=aJ hn;dsimp only;split
   ·rename_i h;rw[and_eq_true]at h;cases hi:bq S x with
    |none=>exact bw
    |some i=>
     obtain⟨h1,h2,h3,_⟩:=aR o.s hi;obtain⟨a,b⟩:=cR h1;exact(Fj i (P _) (P _) h3 h2 a b (FB h.1) (Cg (by simpa using h.2)) Ch (asg1 rfl))
   ·exact bw
 |_=>exact bw
theorem IW (n:Nat) (o:TnOk X S) (ts:List Expr) (e:Expr):PR X (.Assign ts e pos) (exA n S ts e):=by
 cases ts with
 |nil=>exact bw
 |cons t r=>cases r with
  |nil=>exact FC n o t e
  |cons _ _=>exact bw
theorem wa (h:Ce e=some (y,a)):∃p ap cp,e=.Call (.Attribute (.Name y p) "pop" ap) [a] [] cp/\aG a=true/\(ap.endLine==cp.line)=true:=by
 unfold Ce at h;split at h
 ·split at h
  ·split at h
   ·rename_i c;obtain⟨rfl,c1,c2⟩:=c;obtain⟨x,h1,h2⟩:=bind_some h;obtain⟨p,rfl⟩:=aJ h1;cases h2;exact⟨_,_,_,rfl,c1,c2⟩
   ·cases h
  ·cases h
 ·cases h
theorem FD (n:Nat) (o:TnOk X S) (m:Str) (e:Expr) (hi:bq S x=some i) (hs:aG e=true) (hl:(ap.endLine==cp.line)=true):PR X (.Expr (.Call (.Attribute (.Name x px) m ap) [e] [] cp) pos) (FA n S i m e):=by
 obtain⟨h1,h2,h3,_⟩:=aR o.s hi;obtain⟨a,b⟩:=cR h1;unfold FA;split
 ·rename_i hm;subst hm;cases hp:Ce e with
  |some z=>
   obtain⟨y,a2⟩:=z;obtain⟨p2,ap2,cp2,rfl,hs2,hl2⟩:=wa hp;dsimp only;cases hj:bq S y with
   |none=>exact bw
   |some j=>
    obtain⟨f1,f2,f3,_⟩:=aR o.s hj;exact II i j ((sound n).rd X S o.s _).p h3 h2 a b f3 f2 (cR f1).1 (cR f1).2 (star1 hs2) hl hl2
  |none=>
  ·exact vM i (vZ n o.s _) h3 h2 a b (star1 hs) hl
 ·split
  ·rename_i hm;subst hm;exact vP i ((sound n).rd X S o.s e).p h3 h2 a b (star1 hs) hl
  ·split
   ·rename_i hm;subst hm;exact Fo i ((sound n).rd X S o.s e).p h3 h2 a b (star1 hs) hl
   ·exact bw
theorem IX (n:Nat) (o:TnOk X S) (ob:Expr) (m:Str) (e:Expr) (hs:aG e=true) (hl:(ap.endLine==cp.line)=true):PR X (.Expr (.Call (.Attribute ob m ap) [e] [] cp) pos) (exM n S ob m e):=by
 cases ob with
 |Name x p=>
  unfold exM;dsimp only;cases hi:bq S x with
  |none=>exact bw
  |some i=>exact FD n o m e hi hs hl
 |Subscript ob k p=>
  unfold exM;dsimp only;cases hn:(bL ob).bind (bq S)with
  |none=>exact bw
  |some i=>
   obtain⟨x,e1,hi⟩:=bind_some hn;obtain⟨px,rfl⟩:=aJ e1;dsimp only;split
   ·rename_i h;obtain⟨rfl,hk⟩:=h;obtain⟨h1,h2,h3,_⟩:=aR o.s hi;obtain⟨a,b⟩:=cR h1;exact Fg i ((sound n).rd X S o.s _).p ((sound n).rd X S o.s _).p h3 h2 a b (noSl_ok hk) (star1 hs) hl
   ·exact bw
 |_=>exact bw
theorem wc (h:Cf e=some (o,ap,a,b,cp)):e=.Call (.Attribute o "insert" ap) [a,b] [] cp:=by
 unfold Cf at h;grind
theorem IY (n:Nat) (o:TnOk X S) (ob a b:Expr) (ha:aG a=true) (hb:aG b=true) (hl:(ap.endLine==cp.line)=true):PR X (.Expr (.Call (.Attribute ob "insert" ap) [a,b] [] cp) pos) (exI n S ob a b):=by
 have P:=λe=>((sound n).rd X S o.s e).p;unfold exI;cases hn:bL ob with
 |none=>exact bw
 |some x=>
  obtain⟨p,rfl⟩:=aJ hn;dsimp only;cases hi:bq S x with
  |none=>exact bw
  |some i=>
   obtain⟨h1,h2,h3,_⟩:=aR o.s hi;obtain⟨c,d⟩:=cR h1;exact vV i (P _) (P _) h3 h2 c d (star1 ha) (star1 hb) hl
theorem IZ (n:Nat) (o:TnOk X S) (e:Expr):PR X (.Expr e pos) (exV n S e):=by
 unfold exV;cases hm:Cf e with
 |some z=>
  obtain⟨ob,ap,a,b,cp⟩:=z;have:=wc hm;subst this;dsimp only;split
  ·rename_i h;rw[and_eq_true,and_eq_true]at h;exact IY n o ob a b h.1.1 h.1.2 h.2
  ·exact bw
 |none=>
  dsimp only;split
  ·exact bw
  ·rename_i h;exact Bx ((sound n).rd X S o.s e).p (swaps_no (by simpa using h) _ _ _)
theorem I0 (n:Nat) (o:TnOk X S) (e:Expr):PR X (.Expr e pos) (exX n S e):=by
 unfold exX;cases hm:uK e with
 |some z=>
  obtain⟨ob,m,ap,a,cp⟩:=z;have:=sX hm;subst this;dsimp only;split
  ·rename_i h;rw[and_eq_true]at h;exact IX n o ob m a h.1 h.2
  ·exact bw
 |none=>exact IZ n o e
theorem qN:∀n,(∀X S,TnOk X S->∀st,PR X st (ex n S st))/\∀X S,TnOk X S->∀st,PRs X st (exs n S st):=by
 intro n;induction n with
 |zero=>exact⟨λX S o e=>bw,λX S o es=>xx⟩
 |succ n ih=>
  refine⟨λX S o st=>?_,λX S o st=>?_⟩
  ·have pass:PassesOwn (model X.prog X.w) X.A X.env X.xe:=by rw[o.nox];exact PassesOwn.never
   unfold ex;cases st with
   |Return v p=>exact IV n o v
   |Assign ts e p=>exact IW n o ts e
   |If c a b p=>exact Ix ((sound n).rq X S o.s _) (ih.2 X S o _) (ih.2 X S o _)
   |For tg iter body els p=>
    dsimp only;split
    ·rename_i h;rw[and_eq_true]at h;cases els with
     |nil=>
      have F1:=EZ (pos:=p) pass o.s.calm ((sound n).rj X S o.s tg iter) ((qK o.s o.fn n).1 _) (ih.2 X S o body) (cq h.2);have F2:=BA (pos:=p) pass o.s.calm ((sound n).rj X S o.s tg iter) ((qK o.s o.fn n).1 _) (ih.2 X S o body) (cq h.2);cases hk:yG S iter body with
      |some i=>
       unfold yG at hk;split at hk
       ·obtain⟨x,h1,hi⟩:=bind_some hk;obtain⟨px,rfl⟩:=aJ h1;obtain⟨g1,g2,g3,_⟩:=aR o.s hi;obtain⟨c,d⟩:=cR g1;exact BZ pass o.s.calm g3 g2 c d ((qK o.s o.fn n).1 _) (ih.2 X S o body) (cq h.2)
       ·cases hk
      |none=>
      exact Ds F1 F2
     |cons _ _=>cases h.1
    ·exact bw
   |While c body els p=>
    dsimp only;split
    ·rename_i h;cases els with
     |nil=>exact yi pass ((sound n).rq X S o.s _) (ih.2 X S o body)
     |cons _ _=>cases h
    ·exact bw
   |Expr e p=>exact I0 n o e
   |_=>exact bw
  ·unfold exs;cases st with
   |nil=>exact sw
   |cons s r=>exact oV (ih.1 X S o _) (ih.2 X S o _)
end
def Ja:Expr->Option (Str×Str)
 |.Attribute o f _=>(bL o).bind λy=>some (y,f)
 |_=>none
def FE:Stmt->Option (Str×Str×Expr)
 |.Assign ts e _=>(match ts with
  |[t]=>(Ja t).bind λz=>some (z.1,z.2,e)
  |_=>none)
 |_=>none
theorem wd (h:FE s=some (y,f,e)):∃p q r,s=.Assign [.Attribute (.Name y p) f q] e r:=by
 unfold FE at h;split at h
 ·split at h
  ·rename_i t;obtain⟨z,h1,h⟩:=bind_some h;cases h;unfold Ja at h1;split at h1
   ·obtain⟨x,h2,h1⟩:=bind_some h1;obtain⟨p,rfl⟩:=aJ h2;cases h1;exact⟨_,_,_,rfl⟩
   ·cases h1
  ·cases h
 ·cases h
noncomputable def inx:Nat->Sn->Addr->(Str->Bool)->List Stmt->InF
 |0=>λ_ _ _ _=>λ_ _=>none
 |n+1=>λS x fl st=>match st with
  |[]=>BF
  |s::r=>(match FE s with
   |some (y,f,e)=>if fl f&&!bK e then(match bq S y with|some i=>BG x i f (ev n S e) (inx n S x fl r)|none=>λ_ _=>none)elseλ_ _=>none
   |none=>stI (ex n S s) (inx n S x fl r))
theorem Jb (o:TnOk X S) (c:Cls X.K Ca) (hfl:∀f,fl f=true->NoAttr X.K Ca f):∀n st,PIn X Ca x st (inx n S x fl st):=by
 have no:∀st,PIn X Ca x st (λ_ _=>none):=λst B O Y dx fd pins s σ H D I ⟨_,_,_,_,q,_⟩=>by cases q
 intro n;induction n with
 |zero=>exactλst=>no st
 |succ n ih=>
  intro st;unfold inx;split
  ·exact Fa
  ·split
   ·rename_i y f e hs;obtain⟨_,_,_,rfl⟩:=wd hs;split
    ·rename_i h;rw[and_eq_true]at h;split
     ·rename_i i hi;obtain⟨h1,h2,h3,_⟩:=aR o.s hi;obtain⟨a,b⟩:=cR h1;exact Fb i (vZ n o.s _) (ih _) h3 h2 a b (swaps_no (by simpa using h.2) _ _ _) c (hfl _ h.1)
     ·exact no _
    ·exact no _
   ·exact BH ((qN n).1 X S o _) (ih _)
mutual
noncomputable def tgA (S:Sn) (i0:Nat):Nat->Expr->D->Ev->Option Ev
 |0=>λ_ _ _=>none
 |n+1=>λe=>match e with
  |.Name x _=>(match pj S x with|some i=>if i=i0 thenλ_ _=>none else eNm i|none=>λ_ _=>none)
  |.Tuple ts _ _=>if ts.all aG then eTp ts.length (Jc S i0 n ts)elseλ_ _=>none
  |_=>λ_ _=>none
noncomputable def Jc (S:Sn) (i0:Nat):Nat->List Expr->List D->Ev->Option Ev
 |0=>λ_ _ _=>none
 |n+1=>λes=>match es with
  |[]=>xB
  |t::ts=>if aG t then nX (tgA S i0 n t) (Jc S i0 n ts)elseλ_ _=>none
end
section
variable {X:Cx} {S:Sn} {i0:Nat}
end
structure AlOk (K:Frag) (B:Bs) (O:Addr->Bool) (σ:St) (H:Hp) (Y:Ev) (i:Nat) (d:D):Prop where
 E:EnvOk K B O σ H Y
 no:Y[i]?=some none
 al:∃v,σ[i]?=some (some v)/\Is K H d v
section
variable {K:Frag} {B:Bs} {O:Addr->Bool} {σ:St} {H H':Hp} {Y:Ev} {i j:Nat} {d:D}
end
section
variable {X:Cx} {e tg iter:Expr} {pos:Pos} {i j:Nat} {x y:Str} {d:D} {ds:List D} {B:Bs} {O:Addr->Bool} {Y:Ev}
end
section
variable {X:Cx} {S:Sn}
end
section
variable {X:Cx} {e2 c:Expr} {i v:Nat} {x y:Str}
end
section
variable {X:Cx} {S:Sn}
end
def cI (i:Int):Vv->Option D:=λ_=>some (.int i)
def cB (b:Bool):Vv->Option D:=λ_=>some (.bl b)
def cN:Vv->Option D:=λ_=>some .non
def cS (x:Str):Vv->Option D:=λ_=>some (.str x)
def cD (d:D):Vv->Option D:=λ_=>some d
def cT (n:String):Vv->Option D:=λ_=>some (.ty n)
def va (i:Nat):Vv->Option D:=λY=>fP Y i
def ngF (a:Vv->Option D):Vv->Option D:=λY=>(a Y).bind xl
def aC:Vv->Option (List D):=λ_=>some []
def tpF (xs:Vv->Option (List D)):Vv->Option D:=λY=>(ck (xs Y)).bind λds=>some (.tup ds)
def flF (fl:Str->Str->Bool) (m:Str) (o:Vv->Option D):Vv->Option D:=λY=>(o Y).bind (mY fl m)
def slF (a:Vv->Option D) (lo hi:Vv->Option (Option Int)):Vv->Option D:=orO (qx a lo hi) λY=>(oQ a lo hi Y).map D.lst
def noP:Vv->Option (Option Int):=λ_=>some none
def lsF (L:Vv->Option (List D)):Vv->Option D:=λY=>(L Y).map D.lst
def clF (f:List D->Option Sl) (xs:Vv->Option (List D)):Vv->Option D:=orO (λY=>(xs Y).bind λds=>gJ (f ds)) (lsF noV)
def biF (f:List D->Option D) (xs:Vv->Option (List D)):Vv->Option D:=orO (λY=>(xs Y).bind f) (lsF noV)
def noD:List D->Option D:=λ_=>none
def mkF (C:Str) (g:List D->Option (List (Str×D))) (xs:Vv->Option (List D)):Vv->Option D:=orO (λY=>(xs Y).bind λds=>BD C (g ds)) (lsF noV)
def meF (o:Vv->Option D) (xs:Vv->Option (List D)) (mt:MT) (k:Nat) (m:Str):Vv->Option D:=λY=>gJ (Iz o xs mt k m Y)
def dpF (xs:Vv->Option (List D)):Vv->Option (List D):=λY=>ck (xs Y)
def l1F (xs:Vv->Option (List D)):Vv->Option (List D):=λY=>(xs Y).bind nQ
def liF (xs:Vv->Option (List D)):Vv->Option D:=orO (λY=>(xs Y).bind noD) (lsF (l1F xs))
def s1F (xs:Vv->Option (List D)):Vv->Option (List D):=λY=>(xs Y).bind cM
def lrF (xs:Vv->Option (List D)):Vv->Option (List D):=λY=>(xs Y).bind lrD
def enF (xs:Vv->Option (List D)):Vv->Option (List D):=λY=>(xs Y).bind uv
def liG (xs:Vv->Option (List D)) (L:Vv->Option (List D)):Vv->Option D:=orO (λY=>(xs Y).bind noD) (lsF L)
def trF (a:Vv->Option D):Vv->Option Bool:=λY=>(a Y).bind vB
def tQ:Vv->Option Bool:=λ_=>some true
def jX (sp:Vv->Option (List D)) (R:Vv->Option D):Vv->Option (List D):=orO sp λY=>(R Y).bind seqD
def r1F (xs:Vv->Option (List D)):Vv->Option (List D):=λY=>(xs Y).bind j8
def frX (R:Vv->Option D) (L:Vv->Option (List D)) (Sp:Vv->Option D):Vv->Option D:=orO (λY=>lfO (R Y)) (orO (λY=>oS (L Y)) Sp)
def evX (R:Vv->Option D) (L:Vv->Option (List D)) (Sp:Vv->Option D):Ev->Option (Sl×Ev):=orO (dS (frX R L Sp)) (orO (uo L) (orO (Bv R) (EU R)))
def fLs (F:Vv->Option (List D)):Vv->Option D:=λY=>(ck (F Y)).bind λds=>some (.lst ds)
def fTp (F:Vv->Option (List D)):Vv->Option D:=λY=>(ck (F Y)).bind λds=>some (.tup ds)
def fCo (ks:List Nat) (J:Vv->Option (List D)) (tg:D->Vv->Option Vv) (t:Vv->Option Bool) (F:Vv->Option D):Vv->Option D:=λY=>(au ks J tg t F Y).bind λds=>some (.lst ds)
def fCl (f:List D->Option Sl) (xs:Vv->Option (List D)):Vv->Option D:=λY=>(xs Y).bind λds=>qz (f ds)
def fNo (xs:Vv->Option (List D)):Vv->Option D:=λY=>(xs Y).bind noD
def rtN (i:Nat):Ev->Option Out:=λY=>(gI Y i).bind λs=>some (.rt s)
def nxE:Ev->Option Out:=λY=>some (.nx Y)
def frF (J:Vv->Option (List D)) (tg:D->Ev->Option Ev) (F:Ev->Option Out):Ev->Option Out:=orO (vL J tg F) (EY J tg F)
def dcN:Vv->Option D:=λ_=>some (.dct [] [])
def dcO (n:Int) (b:Bool):Vv->Option D:=λ_=>some (.dct [.inl n] [.bl b])
def evM (j:Nat) (g:Ev->Option (Sl×Ev)):Ev->Option (Sl×Ev):=orO (mvE j) g
def qO (i:Nat) (k:Vv->Option D) (g:Ev->Option (Sl×Ev)) (R:Vv->Option D):Ev->Option Out:=xS i k R
noncomputable def bo (K:Frag) (x:Str) (st:Stmt):Prop:=∃ (f:Addr) (oc:Value) (od an:Option Addr) (osl:Array (Option Value)) (kV doc pm cdv ct:Value),nsIn K mainGlobals x=some (some (.ref f))/\
 K.lookup f=some ⟨oc,od,.func (PySem.W.fnOf x x (bV st) (aK st) (aj st) .none kV doc pm an cdv ct),osl⟩/\PySem.W.codeIn K cdv x=true/\PySem.W.keepIn K (.ref f)=true
noncomputable def yH (K:Frag) (C m qual:Str) (st:Stmt):Prop:=∃ (Ca f:Addr) (oc:Value) (od an:Option Addr) (osl:Array (Option Value)) (kV doc pm cdv ct:Value),nsIn K mainGlobals C=some (some (.ref Ca))/\findIn K (.ref Ca) m=some (some (.ref f))/\PySem.W.isFn K (.ref f)=true/\
 K.lookup f=some ⟨oc,od,.func (PySem.W.fnOf m qual (bV st) (aK st) (aj st) .none kV doc pm an cdv ct),osl⟩/\PySem.W.codeIn K cdv qual=true/\PySem.W.keepIn K (.ref f)=true
structure TCls (K:Frag) (C:Str):Prop where
 ex:∃Ca:Addr,nsIn K mainGlobals C=some (some (.ref Ca))/\Cls K Ca/\PySem.W.makesIn K Ca=true/\PySem.W.keepIn K (.ref Ca)=true
section
variable {P:Program} {w:World} {K:Frag} {mg:Str->Option Value} {base:Heap}
abbrev qP (N:List Str) (st:Stmt) (k:Nat) (G:Gb):Sn:=⟨N,(aj st).names,k,G⟩
theorem qQ {G:Gb} (g:GbOk P w K mg base G) {N ps:List Str} {st:Stmt} {k:Nat} {qual:Str} {f:Addr} (S:FnScope N ps (aj st)) (cdv:Value) (A:Around) (outer:List Env) (s:Shared) (H:Hp) (E:XK) (hr:Room k (A.deeper (envOfC qual (aj st) s.heap.objs.size f cdv))):
  TnOk (ic CX0 P w K mg base N qual (aj st) f cdv A outer s H E).nox (qP N st k G) where
 s:=⟨g,rfl,S.nd,rfl,hr,λ_ h=>h,λ_ h=>h,λ_ h=>.inr h,λ_ h=>h⟩
 fn:=λ_=>rfl
 nox:=rfl
 nm:=rfl
def dfn (n k:Nat) (N ps:List Str) (st:Stmt) (G:Gb):List D->Option Sl:=bj ps.length N.length (exs n (qP N st k G) (aK st))
def cx (x:Str) (st:Stmt) (ps:List Str):Prop:=∀ (qual:Str) (kV doc pm:Value) (an:Option Addr) (cdv ct:Value) (us:List Value),us.length=ps.length->bindArgs (PySem.W.fnOf x qual (bV st) (aK st) (aj st) .none kV doc pm an cdv ct) ⟨us,[]⟩=pure (ps.zip us)
theorem Jd (g:GbOk P w K mg base G) (KX:K.In h) (hN:h.Ns mainGlobals mg) {st} (n k:Nat) (S:FnScope N ps (aj st)) (b:cx x st ps) (t:bo K x st):Df P w K mg base x (k+1) (dfn n k N ps st G):=by
 obtain⟨f,oc,od,an,osl,kV,doc,pm,cdv,ct,h1,h2,h3,h4⟩:=t;have Fn:=kW (st:=st) h2 h3 h4;refine⟨f,_,ps,PySem.W.mg_of KX hN h1,h4,Fn.binds λkV doc pm an cdv ct us hl=>b x kV doc pm an cdv ct us hl,E8 Fn S λcdv A outer s H E hr=>?_⟩;exact(qN n).2 _ _ (qQ g S cdv A outer s H E hr) _
theorem Je (g:GbOk P w K mg base G) (KX:K.In h) (hN:h.Ns mainGlobals mg) {st} (n k:Nat) (fl:Str->Bool) (S:FnScope N ps (aj st)) (b:cx "__init__" st ps) (c:TCls K C) (t:yH K C "__init__" qual st) (hfl:∀f,fl f=true->∀Ca,nsIn K mainGlobals C=some (some (.ref Ca))->NoAttr K Ca f) (hg:∀ds r,gg ds=some r->∀y,xC ps.length N.length (λy=>inx n (qP N st k G) y fl (aK st)) y ds=some r):Mkf P w K mg base C (k+1) gg:=by
 obtain⟨Ca,f,oc,od,an,osl,kV,doc,pm,cdv,ct,h0,hf,hi,h2,h3,h4⟩:=t;obtain⟨Cb,e0,cl,mk,kp⟩:=c.ex;rw[h0]at e0;cases e0;have Fn:=kW (st:=st) h2 h3 h4;refine⟨Ca,f,_,ps,PySem.W.mg_of KX hN h0,h0,⟨mk,hf,hi,kp⟩,Fn.binds λkV doc pm an cdv ct us hl=>b qual kV doc pm an cdv ct us hl,K6 (I:=λy=>inx n (qP N st k G) y fl (aK st)) Fn S hg λy cdv A outer s H E hr=>?_⟩;exact Jb (qQ g S cdv A outer s H E hr) cl (λf q=>hfl f q Ca h0) n _
end
def spL (K:Frag):Sp:=λvs H Q _=>∃ (a:Addr) (ns:List Int),vs=[.ref a]/\SqL K H a (ns.map V.int)/\ns.length<=63/\∀H',Q (.bl true) H'
theorem uL {K}:∀ (ns:List Int),IsL K H (ns.map D.int) (ns.map V.int)
 |[]=>rfl
 |n::ns=>⟨_,_,rfl,rfl,uL ns⟩
theorem FG {K} (F:FnOk P w K mg base CX0 k a fd ps (spC K f)) (hf:∀ns:List Int,ns.length<=63->gJ (f [.lst (ns.map D.int)])=some (.bl true)):
  FnOk P w K mg base CX0 k a fd ps (spL K):=F.imp λvs H Q E ⟨b,ns,e,h,hl,q⟩=>by
 obtain⟨⟨c,d⟩,e1,e2⟩:=bind_some (hf ns hl)
 cases e2
 refine⟨noO,[.lst (ns.map D.int)],_,λ_ h=>(nomatch h),?_,e1,λv H' r=>?_⟩
 ·rw[e,fm];exact⟨_,[],rfl,⟨b,_,rfl,h,uL ns⟩,rfl⟩
 ·obtain⟨O',A,_,_,_,_,_,h6⟩:=r;have hv:v=.bl true:=by
   cases c with
   |sh=>exact h6.2
   |top=>obtain⟨_,_,_,z,_⟩:=h6;cases z
   |deep=>exact h6.1
  rw[hv];exact q H'
theorem walkL {l:PySem.W.OpenLaw} {K:Params->Frag} (hn:l.most=some 63) (hdf:d.params.defaults=[]) (hr:Room k callerA) (hY:∀ (w:World) (h:Heap),YP w h->(K w.params).In h) (F:∀ (w:World) (mg:Str->Option Value) (fa:Addr) (h:Heap),(K w.params).In h->h.Ns mainGlobals mg->mg d.name=some (.ref fa)->
   ∃fd:FuncData,(∀ (s:Shared) (u:Value),BindsTo s fd ⟨[u],[]⟩ [("script",u)])/\∀base:Heap,(K w.params).In base->base.Ns mainGlobals mg->FnOk l.prog w (K w.params) mg base CX0 k fa fd ["script"] (spL (K w.params))):
  PySem.W.WalkO q loose XP YP l.row.toRowW d [] (λf vs=>PySem.call f vs):=
 L2.walk_of (n:=63) (k:=k) (x:="script") (CX:=λ_=>CX0) (sp:=λw=>spL (K w.params)) hn (by decide) hdf hr hY F (λ_ _ a ns hl _ hS=>⟨a,ns,rfl,hS,hl,λ_=>rfl⟩) λ_ _ _ _ _ z=>z
def addF (G:Gb) (x:Str) (k:Nat) (f:List D->Option Sl):Gb:={G with fn:=λy=>if y=x then some (k,f)else G.fn y}
def addI (G:Gb) (C:Str) (k:Nat) (g:List D->Option (List (Str×D))):Gb:={G with ini:=λy=>if y=C then some (k,g)else G.ini y}
section
variable {P:Program} {w:World} {K:Frag} {mg:Str->Option Value} {base:Heap} {G:Gb}
theorem GbOk.addF (g:GbOk P w K mg base G) (d:Df P w K mg base x k f):GbOk P w K mg base (addF G x k f):=⟨λy j h e=>by
 have e':(if y=x then some (k,f)else G.fn y)=some (j,h):=e;split at e'
 ·rename_i z;cases e';rw[z];exact d
 ·exact g.fn y j h e',g.cn,g.no,g.fl,g.mt,g.ini⟩
theorem GbOk.addI (g:GbOk P w K mg base G) (d:Mkf P w K mg base C k gg):GbOk P w K mg base (addI G C k gg):=⟨g.fn,g.cn,g.no,g.fl,g.mt,λy j h e=>by
 have e':(if y=C then some (k,gg)else G.ini y)=some (j,h):=e;split at e'
 ·rename_i z;cases e';rw[z];exact d
 ·exact g.ini y j h e'⟩
end
theorem evX_lf {R L Sp} (h:R (vw Y)=some d) (f:lfD d=true):evX R L Sp Y=some ((.deep,d),Y):=by
 unfold evX orO dS frX orO lfO;simp[h,f]
theorem evX_lfs {R L Sp} (h:R (vw Y)=some d) (f:lfD d=false) (hl:L (vw Y)=some ds) (fl:lfL ds=true):evX R L Sp Y=some ((.deep,.lst ds),Y):=by
 unfold evX orO dS frX orO lfO oS;simp[h,hl,f,fl]
theorem evX_call {R L Sp} (h:R (vw Y)=some d) (f:lfD d=false) (hl:L (vw Y)=none) (hs:Sp (vw Y)=some e):evX R L Sp Y=some ((.deep,e),Y):=by
 unfold evX orO dS frX orO lfO oS;simp[h,hl,f,hs]
theorem yI {R L Sp} (h:R (vw Y)=some d) (f:lfD d=false) (hl:L (vw Y)=none) (hs:Sp (vw Y)=none) (hl2:L (shv Y)=none) (h2:R (shv Y)=some d):evX R L Sp Y=some ((.sh,d),Y):=by
 unfold evX orO dS uo Bv frX orO lfO oS;grind
theorem az (h:F Y=some (.nx Y')):ae F G Y=G Y':=by unfold ae;rw[h];rfl
theorem aN (h:F Y=some (.rt s)):ae F G Y=some (.rt s):=by unfold ae;rw[h];rfl
theorem cy (h:g Y=some (s,Y')):ak i g Y=some (.nx (Y'.set i (some s))):=by unfold ak;rw[h];rfl
theorem dH (h:g Y=some (s,Y')):fQ g Y=some (.rt s):=by unfold fQ;rw[h];rfl
theorem gQ (h:c (vw Y)=some true):ifS c F G Y=F Y:=by unfold ifS;rw[h];rfl
theorem eh (h:c (vw Y)=some false):ifS c F G Y=G Y:=by unfold ifS;rw[h];rfl
theorem lV {step}:∀ (ds:List D) (I:Nat->Ev->Prop) (Y:Ev),I 0 Y->(∀ (i:Nat) (d:D) (Y:Ev),ds[i]?=some d->I i Y->∃Y',step d Y=some (.nx Y')/\I (i+1) Y')->∃Y',iO step ds Y=some (.nx Y')/\I ds.length Y'
 |[],I,Y,h0,_=>⟨Y,rfl,h0⟩
 |d::ds,I,Y,h0,hs=>by
  obtain⟨Y1,e1,i1⟩:=hs 0 d Y rfl h0;obtain⟨Y2,e2,i2⟩:=lV ds (λi=>I (i+1)) Y1 i1 λi d' Y' h hi=>hs (i+1) d' Y' (by simpa using h) hi;refine⟨Y2,?_,i2⟩;unfold iO;rw[e1];exact e2
theorem gC (I:Nat->Ev->Prop) (hJ:J (shv Y)=some ds) (h0:I 0 Y) (hs:∀ (i:Nat) (d:D) (Y:Ev),ds[i]?=some d->I i Y->∃Y',(tg d Y).bind F=some (.nx Y')/\I (i+1) Y'):
  ∃Y',frF J tg F Y=some (.nx Y')/\I ds.length Y':=by
 obtain⟨Y',e,i⟩:=lV (step:=eP tg F) ds I Y h0 hs
 refine⟨Y',?_,i⟩
 unfold frF orO vL
 grind
section
variable {Y:Vv} {a b c:Vv->Option D} {xs:Vv->Option (List D)} {i:Int} {n:Nat}
@[simp] theorem cI_a:cI i Y=some (.int i):=rfl
@[simp] theorem M6 {b}:cB b Y=some (.bl b):=rfl
@[simp] theorem Lo:cN Y=some .non:=rfl
@[simp] theorem cS_a {x:Str}:cS x Y=some (.str x):=rfl
@[simp] theorem Jf:cD d Y=some d:=rfl
@[simp] theorem Jg {n}:cT n Y=some (.ty n):=rfl
@[simp] theorem MP:(noV Y:Option α)=none:=rfl
@[simp] theorem va_a:va n Y=fP Y n:=rfl
@[simp] theorem shAt_0 {d:Option D} {r:Vv}:fP (d::r) 0=d:=by cases d<;>rfl
@[simp] theorem shAt_s {d:Option D} {r:Vv} {n:Nat}:fP (d::r) (n+1)=fP r n:=by unfold fP;simp
@[simp] theorem shAt_1 {d e:Option D} {r:Vv}:fP (d::e::r) 1=e:=by cases e<;>rfl
@[simp] theorem bin2_a {g}:aa g a b Y=(a Y).bind λx=>(b Y).bind λy=>g x y:=rfl
@[simp] theorem uM:ngF a Y=(a Y).bind xl:=rfl
@[simp] theorem nilX_a:aC Y=some []:=rfl
@[simp] theorem consX_a:ag a xs Y=(a Y).bind λd=>(xs Y).bind λr=>some (d::r):=rfl
@[simp] theorem qR:tpF xs Y=(ck (xs Y)).bind λds=>some (.tup ds):=rfl
@[simp] theorem DD:flF fl m a Y=(a Y).bind (mY fl m):=rfl
@[simp] theorem MQ:noP Y=some none:=rfl
@[simp] theorem Kj:bv a Y=(a Y).bind λd=>(intD d).bind λi=>some (some i):=rfl
@[simp] theorem lsF_a {L}:lsF L Y=(L Y).map D.lst:=rfl
theorem lW {f g:α->Option β} (h:g x=none):orO f g x=f x:=by
 unfold orO;cases f x<;>simp[h]
@[simp] theorem clF_a {f}:clF f xs Y=(xs Y).bind λds=>gJ (f ds):=lW rfl
@[simp] theorem biF_a {f}:biF f xs Y=(xs Y).bind f:=lW rfl
@[simp] theorem uN:mkF C g xs Y=(xs Y).bind λds=>BD C (g ds):=lW rfl
@[simp] theorem MR {mt k m}:meF a xs mt k m Y=gJ ((a Y).bind λd=>(xs Y).bind λas=>Dt mt k m d as):=rfl
@[simp] theorem dpF_a:dpF xs Y=ck (xs Y):=rfl
@[simp] theorem MS:l1F xs Y=(xs Y).bind nQ:=rfl
@[simp] theorem MU:liF xs Y=((xs Y).bind nQ).map D.lst:=by
 unfold liF orO;have:((xs Y).bind noD)=none:=by cases xs Y<;>rfl
 simp[this]
@[simp] theorem trF_a:trF a Y=(a Y).bind vB:=rfl
@[simp] theorem tQ_a:tQ Y=some true:=rfl
@[simp] theorem fCl_a {f}:fCl f xs Y=(xs Y).bind λds=>qz (f ds):=rfl
@[simp] theorem MV:fNo xs Y=none:=by unfold fNo noD;cases xs Y<;>rfl
@[simp] theorem DE:fLs F Y=(ck (F Y)).bind λds=>some (.lst ds):=rfl
@[simp] theorem MW:fTp F Y=(ck (F Y)).bind λds=>some (.tup ds):=rfl
@[simp] theorem bW:jX noV R Y=(R Y).bind seqD:=rfl
theorem f8 (h:(xs Y).bind j8=some ds):jX (r1F xs) R Y=some ds:=by
 unfold jX orO r1F;simp[h]
@[simp] theorem sY:mW a b Y=(a Y).bind λx=>x.asB.bind λc=>if c=true then b Y else some (.bl false):=rfl
@[simp] theorem MX:orF a b Y=(a Y).bind λx=>x.asB.bind λc=>if c=true then some (.bl true)else b Y:=rfl
@[simp] theorem Lp:Be a Y=(a Y).bind λx=>x.asB.bind λc=>some (.bl (!c)):=rfl
@[simp] theorem andQ_a {p q:Vv->Option Bool}:lq p q Y=(p Y).bind λc=>if c=true then q Y else some false:=rfl
@[simp] theorem yJ:orQ p q Y=(p Y).bind λc=>if c=true then some true else q Y:=rfl
@[simp] theorem notQ_a {p:Vv->Option Bool}:dG p Y=(p Y).map (!·):=rfl
@[simp] theorem lX:ifF p a b Y=(p Y).bind λc=>if c=true then a Y else b Y:=rfl
@[simp] theorem testB_a:ar a Y=(a Y).bind D.asB:=rfl
@[simp] theorem Jh:dt g g' a b c Y=(a Y).bind λx=>(b Y).bind λy=>(g x y).bind λz=>z.asB.bind λk=>if k=true then(c Y).bind λw=>g' y w else some (.bl false):=rfl
end
@[simp] theorem asB_bl (b:Bool):D.asB (.bl b)=some b:=rfl
@[simp] theorem valO_some (s:Sl):gJ (some s)=some s.2:=rfl
@[simp] theorem sZ (d:D):qz (some (.deep,d))=some d:=rfl
@[simp] theorem addD_ii (i j:Int):aE (.int i) (.int j)=some (.int (i+j)):=rfl
@[simp] theorem subD_ii (i j:Int):cg (.int i) (.int j)=some (.int (i-j)):=rfl
@[simp] theorem Lq (i j:Int):ltD (.int i) (.int j)=some (.bl (decide (i<j))):=rfl
@[simp] theorem FH (i j:Int):leD (.int i) (.int j)=some (.bl (decide (i<=j))):=rfl
@[simp] theorem pv (i j:Int):gtD (.int i) (.int j)=some (.bl (decide (j<i))):=rfl
@[simp] theorem Lr (i j:Int):geD (.int i) (.int j)=some (.bl (decide (j<=i))):=rfl
@[simp] theorem pw (i:Int):xl (.int i)=some (.int (-i)):=rfl
@[simp] theorem Ls (i:Int):intD (.int i)=some i:=rfl
@[simp] theorem jq (ds:List D):seqD (.lst ds)=some ds:=rfl
@[simp] theorem Lu (ds:List D):seqD (.tup ds)=some ds:=rfl
@[simp] theorem cU (d:D):bP [d]=(seqD d).bind λds=>some (.int ds.length):=rfl
@[simp] theorem Kk (d:D):nQ [d]=seqD d:=rfl
@[simp] theorem yK (d:D):b6 [d]=(seqD d).bind λds=>some (.tup ds):=rfl
@[simp] theorem FI (i j:Int):oP [.int i,.int j]=some (.int (if j>i then j else i)):=rfl
@[simp] theorem Lv (i j:Int):EN [.int i,.int j]=some (.int (if j<i then j else i)):=rfl
@[simp] theorem truD_bl (b:Bool):vB (.bl b)=some b:=rfl
theorem uO (h:CMul i j):bN (.int i) (.int j)=some (.int (i*j)):=by unfold bN;simp[h]
theorem pz (h:-18446744073709551616<i) (h2:i<18446744073709551616):bN (.int i) (.int j)=some (.int (i*j)):=uO (.inl ⟨by omega,by omega⟩)
theorem FJ (h:-18446744073709551616<j) (h2:j<18446744073709551616):bN (.int i) (.int j)=some (.int (i*j)):=uO (.inr ⟨by omega,by omega⟩)
theorem yL (h:0<j) (h2:j.natAbs.log2<9000):cO (.int i) (.int j)=some (.int (i/j)):=by unfold cO;exact if_pos ⟨h,h2⟩
theorem bA (h:0<j) (h2:j<1073741824):cO (.int i) (.int j)=some (.int (i/j)):=yL h (Nat.lt_trans ((Nat.log2_lt (by omega)).mpr (show j.natAbs<2^30 by omega)) (by decide))
theorem aP (h:0<j):aT (.int i) (.int j)=some (.int (i%j)):=by unfold aT;simp[h]
@[simp] theorem uP (i:Int):lfD (.int i)=true:=rfl
@[simp] theorem Lw (b:Bool):lfD (.bl b)=true:=rfl
@[simp] theorem Kl (x:Str):lfD (.str x)=true:=rfl
@[simp] theorem Km:lfD .non=true:=rfl
@[simp] theorem Kn (ds:List D):lfD (.lst ds)=false:=rfl
@[simp] theorem Ko (ds:List D):lfD (.tup ds)=lfL ds:=rfl
@[simp] theorem Kp:lfL []=true:=rfl
@[simp] theorem yM (d:D) (ds:List D):lfL (d::ds)=(lfD d&&lfL ds):=rfl
theorem bM:∀ {ds:List D},(∀d∈ds,lfD d=true)->lfL ds=true
 |[],_=>rfl
 |d::ds,h=>by simp[h d mem_cons_self,bM λe he=>h e (mem_cons_of_mem _ he)]
@[simp] theorem Hi:ck none=none:=rfl
theorem fz (h:ds.length<big):ck (some ds)=some ds:=by unfold ck;simp[h]
@[simp] theorem FK:ck (some [])=some []:=fz (by decide)
@[simp] theorem capL_1 (a:D):ck (some [a])=some [a]:=fz (show 1<big by decide)
@[simp] theorem capL_2 (a b:D):ck (some [a,b])=some [a,b]:=fz (show 2<big by decide)
@[simp] theorem Lx (a b c d e:D):ck (some [a,b,c,d,e])=some [a,b,c,d,e]:=fz (show 5<big by decide)
@[simp] theorem Ly (a b c d e f g h:D):ck (some [a,b,c,d,e,f,g,h])=some [a,b,c,d,e,f,g,h]:=fz (show 8<big by decide)
@[simp] theorem DF (d c:D):iK [d,c]=(cm d).bind λT=>(lz c).bind λns=>some (.bl (ns.any (isI T))):=rfl
@[simp] theorem Kq:lz (.ty "int")=some ["int"]:=by rfl
@[simp] theorem Ji:lz (.ty "bool")=some ["bool"]:=by rfl
@[simp] theorem Kr:lz (.ty "str")=some ["str"]:=by rfl
@[simp] theorem Jj:lz (.ty "list")=some ["list"]:=by rfl
@[simp] theorem Hj:lz (.ty "tuple")=some ["tuple"]:=by rfl
@[simp] theorem yN:lz (.tup [.ty "list",.ty "tuple"])=some ["list","tuple"]:=by rfl
@[simp] theorem Lz (i:Int):cm (.int i)=some "int":=rfl
@[simp] theorem MY (i:Bool):cm (.bl i)=some "bool":=rfl
@[simp] theorem LA (i:Str):cm (.str i)=some "str":=rfl
@[simp] theorem LB (i:List D):cm (.tup i)=some "tuple":=rfl
@[simp] theorem LC (i:List D):cm (.lst i)=some "list":=rfl
@[simp] theorem LD:isI "int" "int"=true:=by decide
@[simp] theorem LF:isI "int" "bool"=false:=by decide
@[simp] theorem LG:isI "bool" "bool"=true:=by decide
@[simp] theorem LH:isI "bool" "int"=true:=by decide
@[simp] theorem LI:isI "tuple" "list"=false:=by decide
@[simp] theorem LJ:isI "tuple" "tuple"=true:=by decide
@[simp] theorem yO:isI "list" "list"=true:=by decide
@[simp] theorem LK:isI "list" "tuple"=false:=by decide
@[simp] theorem LL:isI "str" "str"=true:=by decide
@[simp] theorem jQ (neg:Bool) (i j:Int):aF neg (.int i) (.int j)=some (.bl (if neg then !decide (i=j)else decide (i=j))):=by
 unfold aF gL;have:(aU (.int i)&&aU (.int j)&&mU (toV (.int i)) (toV (.int j)))=true:=rfl;rw[if_pos this];have:decide (toV (.int i)=toV (.int j))=decide (i=j):=by
  show decide (V.int i=V.int j)=_;by_cases h:i=j<;>simp[h]
 rw[this];rfl
@[simp] theorem qS (neg:Bool) (i j:Str):aF neg (.str i) (.str j)=some (.bl (if neg then !decide (i=j)else decide (i=j))):=by
 unfold aF gL;have:(aU (.str i)&&aU (.str j)&&mU (toV (.str i)) (toV (.str j)))=true:=rfl;rw[if_pos this];have:decide (toV (.str i)=toV (.str j))=decide (i=j):=by
  show decide (V.str i=V.str j)=_;by_cases h:i=j<;>simp[h]
 rw[this];rfl
@[simp] theorem eq_bb (neg:Bool) (i j:Bool):aF neg (.bl i) (.bl j)=some (.bl (if neg then !decide (i=j)else decide (i=j))):=by
 unfold aF gL;have:(aU (.bl i)&&aU (.bl j)&&mU (toV (.bl i)) (toV (.bl j)))=true:=rfl;rw[if_pos this];have:decide (toV (.bl i)=toV (.bl j))=decide (i=j):=by
  show decide (V.bl i=V.bl j)=_;by_cases h:i=j<;>simp[h]
 rw[this];rfl
@[simp] theorem M7 (ds:List D) (i:Int):ixD (.lst ds) (.int i)=atI ds i:=rfl
@[simp] theorem M8 (ds:List D) (i:Int):ixD (.tup ds) (.int i)=atI ds i:=rfl
theorem lY {d:D} (h:0<=i) (h2:ds[i.toNat]?=some d):atI ds i=some d:=by
 have hl:=(List.getElem?_eq_some_iff.mp h2).1;unfold atI ixN;grind
@[simp] theorem yP (d:D) (ds:List D):atI (d::ds) 0=some d:=lY (by omega) rfl
@[simp] theorem Jk (c d:D) (ds:List D):atI (c::d::ds) 1=some d:=lY (by omega) rfl
@[simp] theorem vw_nil:vw []=[]:=rfl
@[simp] theorem vw_some (s:Sl) (Y:Ev):vw (some s::Y)=some s.2::vw Y:=rfl
@[simp] theorem vw_none (Y:Ev):vw (none::Y)=none::vw Y:=rfl
@[simp] theorem kz:shv []=[]:=rfl
@[simp] theorem lZ (d:D) (Y:Ev):shv (some (.sh,d)::Y)=some d::shv Y:=rfl
@[simp] theorem iR (Y:Ev):shv (none::Y)=none::shv Y:=rfl
@[simp] theorem l5 (d:D) (Y:Ev):shv (some (.deep,d)::Y)=(if lfD d=true then some d else none)::shv Y:=rfl
@[simp] theorem Ks (d:D) (Y:Ev):shv (some (.top,d)::Y)=(if lfD d=true then some d else none)::shv Y:=rfl
@[simp] theorem wipe_nil {α:Type} (σ:List (Option α)):dQ [] σ=σ:=rfl
@[simp] theorem wipe_cons {α:Type} (k:Nat) (ks:List Nat) (σ:List (Option α)):dQ (k::ks) σ=dQ ks (σ.set k none):=rfl
@[simp] theorem gNm_a (i:Nat) (d:D) (Y:Vv):gNm i d Y=some (Y.set i (some d)):=rfl
@[simp] theorem MZ (n:Nat) (gs) (ds:List D) (Y:Vv):gTp n gs (.tup ds) Y=if ds.length=n then gs ds Y else none:=rfl
@[simp] theorem Jl (g gs) (d:D) (ds:List D) (Y:Vv):aI g gs (d::ds) Y=(g d Y).bind λY1=>gs ds Y1:=rfl
@[simp] theorem Kt (Y:Vv):dh [] Y=some Y:=rfl
@[simp] theorem M0 (i:Nat) (d:D) (Y:Ev):eNm i d Y=some (Y.set i (some (.sh,d))):=rfl
@[simp] theorem M2 (n:Nat) (gs) (ds:List D) (Y:Ev):eTp n gs (.tup ds) Y=if ds.length=n then gs ds Y else none:=rfl
@[simp] theorem Ku (g gs) (d:D) (ds:List D) (Y:Ev):nX g gs (d::ds) Y=(g d Y).bind λY1=>gs ds Y1:=rfl
@[simp] theorem LM (Y:Ev):xB [] Y=some Y:=rfl
@[simp] theorem stepF_a (g ft fe) (Y:Vv) (d:D):iL g ft fe Y d=(g d Y).bind λY1=>(ft Y1).bind λc=>if c=true then(fe Y1).bind λy=>some (some y)else some none:=rfl
theorem ao (hl:ds.length=n) (h:F (aq m ds)=some (.rt s)):bj n m F ds=some s:=by
 unfold bj;rw[if_pos hl,h];rfl
theorem yQ (hl:ds.length=n) (h:F (aq m ds)=some (.nx Y)):bj n m F ds=some (.deep,.non):=by
 unfold bj;rw[if_pos hl,h];rfl
@[simp] theorem M3 (Y:Ev):nxE Y=some (.nx Y):=rfl
theorem l7 {β:Type} {step} {mk out}:∀ (xs:List β),(∀x∈xs,step (mk x)=some (some (out x)))->nV step (xs.map mk)=some (xs.map out)
 |[],_=>rfl
 |x::xs,h=>by
  rw[List.map_cons];unfold nV;rw[h x mem_cons_self,l7 xs λe he=>h e (mem_cons_of_mem _ he)];rfl
theorem aB {β:Type} {Y:Vv} {xs:List β} {mk out} (hJ:J Y=some (xs.map mk)) (h:∀x∈xs,iL g ft fe (dQ ks Y) (mk x)=some (some (out x))) (hl:xs.length<big):au ks J g ft fe Y=some (xs.map out):=by
 unfold au;rw[hJ];simp only[Option.bind_some];rw[l7 xs h];unfold ck;simp[hl]
theorem l8:∀bs:List Bool,vD (bs.map D.bl)=some bs
 |[]=>rfl
 |b::bs=>by
  rw[List.map_cons];unfold vD;rw[l8 bs];rfl
theorem iS {β:Type} (xs:List β) (p:β->Bool):ss [.lst (xs.map λx=>.bl (p x))]=some (.bl (xs.all p)):=by
 have e:xs.map (λx=>D.bl (p x))=(xs.map p).map D.bl:=by rw[List.map_map];rfl
 rw[e];unfold ss un1;simp only[fW,Option.bind_some];rw[l8];simp[List.all_map];rfl
theorem M4:(2:Int)^62=4611686018427387904:=by decide+kernel
theorem FL (h:-1000000<j) (h2:j<1000000):inR j:=by grind [inR]
theorem Ci (hj:inR j):j8 [.int j]=some (jh 0 j.toNat):=by
 unfold j8 un1;simp_all
theorem pA {n:Nat} (h:n<1000000):inR (n:Int):=FL (by omega) (by omega)
theorem tf:jh 0 n=(List.range n).map λ(i:Nat)=>D.int (i:Int):=by simp[jh]
theorem bR {n:Nat} (h:n<1000000):j8 [.int (n:Int)]=some ((List.range n).map λ(i:Nat)=>D.int (i:Int)):=by
 rw[Ci (pA h),Int.toNat_natCast,tf]
theorem Cj {β:Type} {xs:List β} {mk:β->D} {i:Int} (h:0<=i) (h2:i<xs.length):atI (xs.map mk) i=some (mk (xs[i.toNat]'(by omega))):=lY h (by
 have:i.toNat<xs.length:=by omega
 simp[this])
theorem b7 {β:Type} {xs:List β} {mk:β->D} {i:Nat} {x} (h:xs[i]?=some x):atI (xs.map mk) (i:Int)=some (mk x):=by
 have hl:=(List.getElem?_eq_some_iff.mp h).1;exact lY (by omega) (by simp[h])
theorem gD (h0:fR Y i=some (c0,ds0)) (h:g Y=some ((.deep,d),Y')) (ho:fR Y' i=some (.deep,ds)) (hl:ds.length+1<big):oX i g Y=some (.nx (Y'.set i (some (.deep,.lst (ds++[d]))))):=by
 unfold oX;rw[h0];simp only[Option.bind_some,h,ho];rw[if_pos hl];rfl
def jS:Ev->Option Out:=(ae (fQ (evX (mW (biF iK (ag (va 0) (ag (cT "int") aC))) (mW (Be (biF iK (ag (va 0) (ag (cT "bool") aC)))) (dt leD leD (va 1) (va 0) (va 2)))) noV noV)) nxE)
noncomputable def jT (aV:List D->Option Sl):Ev->Option Out:=(ae (ifS (orQ (dG (trF (biF iK (ag (va 0) (ag (cT "tuple") aC))))) (ar (aa (aF true) (biF bP (ag (va 0) aC)) (cI 2)))) (ae (fQ (evX (cB false) noV noV)) nxE) nxE) (ae (fQ (evX (mW (aa inD (aa ixD (va 0) (cI 0)) (cD (.tup [(.str "queue"),(.str "pile")]))) (clF aV (ag (aa ixD (va 0) (cI 1)) (ag (cI 0) (ag (cD (.int 9)) aC))))) noV noV)) nxE))
noncomputable def og (di:List D->Option Sl):Ev->Option Out:=(ae (ifS (orQ (dG (trF (biF iK (ag (va 0) (ag (tpF (ag (cT "list") (ag (cT "tuple") aC))) aC))))) (dG (ar (dt leD leD (cI 1) (biF bP (ag (va 0) aC)) (cD (.int 6)))))) (ae (fQ (evX (cB false) noV noV)) nxE) nxE) (ae (fQ (evX (biF ss (ag (lsF (au [1] (jX noV (va 0)) (gNm 1) tQ (clF di (ag (va 1) aC)))) aC)) noV (fNo (ag (lsF (au [1] (jX noV (va 0)) (gNm 1) tQ (clF di (ag (va 1) aC)))) aC)))) nxE))
def l9:Ev->Option Out:=(ae (ak 1 (evX (cI 1) noV noV)) (ae (frF (jX noV (va 0)) (eNm 2) (ae (ak 1 (evX (aa bN (va 1) (biF bP (ag (va 2) aC))) noV noV)) nxE)) (ae (rtN 1) nxE)))
noncomputable def iT (cX:List D->Option Sl) (gG:List D->Option Sl):Ev->Option Out:=(ae (ifS (orQ (dG (trF (biF iK (ag (va 0) (ag (tpF (ag (cT "list") (ag (cT "tuple") aC))) aC))))) (ar (aa gtD (biF bP (ag (va 0) aC)) (cD (.int 6))))) (ae (fQ (evX (cB false) noV noV)) nxE) nxE) (ae (fQ (evX (mW (biF ss (ag (lsF (au [1] (jX noV (va 0)) (gNm 1) tQ (clF gG (ag (va 1) aC)))) aC)) (aa leD (clF cX (ag (va 0) aC)) (cD (.int 1000)))) noV noV)) nxE))
noncomputable def ma (bC:List D->Option Sl) (y:Addr):InF:=(stI (ifS (dG (trF (clF bC (ag (va 1) aC)))) (ae noO' nxE) nxE) (BG y 0 "passes" (evX (biF b6 (ag (lsF (au [2] (jX noV (va 1)) (gNm 2) tQ (biF b6 (ag (va 2) aC)))) aC)) noV (fNo (ag (lsF (au [2] (jX noV (va 1)) (gNm 2) tQ (biF b6 (ag (va 2) aC)))) aC))) BF))
def yR:Ev->Option Out:=(ae (fQ (evX (ifF (ar (aa (aF false) (va 0) (cS "queue"))) (va 2) (aa cg (aa cg (va 1) (cI 1)) (va 2))) noV noV)) nxE)
abbrev Pk:=Bool×Int
def kd (q:Bool):Str:=if q then"queue"else"pile"
def pkD (p:Pk):D:=.tup [.str (kd p.1),.int p.2]
def okK (p:Pk):Bool:=decide (0<=p.2)&&decide (p.2<=9)
def sq (w:Bool) (ds:List D):D:=if w then .lst ds else .tup ds
@[simp] theorem Ck (w:Bool) (ds:List D):seqD (sq w ds)=some ds:=by cases w<;>rfl
@[simp] theorem LN (w:Bool) (ds:List D):iK [sq w ds,.tup [.ty "list",.ty "tuple"]]=some (.bl true):=by cases w<;>simp[sq]
theorem Jm (p:Pk):lfD (pkD p)=true:=rfl
theorem FM (ps:List Pk):lfL (ps.map pkD)=true:=bM λd hd=>by
 obtain⟨p,_,rfl⟩:=List.mem_map.mp hd;exact Jm p
def tpD (ps:List Pk):D:=.tup (ps.map pkD)
theorem yS (ps:List Pk):lfD (tpD ps)=true:=FM ps
theorem pB (pss:List (List Pk)):lfL (pss.map tpD)=true:=bM λd hd=>by
 obtain⟨p,_,rfl⟩:=List.mem_map.mp hd;exact yS p
def fA (f:List D->Option Sl):Prop:=∀v a b:Int,f [.int v,.int a,.int b]=some (.deep,.bl (decide (a<=v)&&decide (v<=b)))
theorem yT:fA (bj 3 3 jS):=λv a b=>by
 refine ao rfl ?_;unfold jS;refine aN (dH (evX_lf ?_ rfl));simp[aq];grind
theorem Jn (q:Bool):inD (.str (kd q)) (.tup [.str "queue",.str "pile"])=some (.bl true):=by
 cases q<;>kernel_rfl
def pC (f:List D->Option Sl):Prop:=∀p:Pk,f [pkD p]=some (.deep,.bl (okK p))
theorem yU (hw:fA w):pC (bj 1 1 (jT w)):=λp=>by
 refine ao rfl ?_;unfold jT pkD;refine(az (Y':=aq 1 [.tup [.str (kd p.1),.int p.2]]) ?_).trans ?_
 ·refine(eh ?_).trans rfl;simp[aq]
 ·refine aN (dH (evX_lf ?_ rfl));simp[aq,hw p.2 0 9,Jn,okK]
def okP (ps:List Pk):Bool:=decide (1<=ps.length)&&decide (ps.length<=6)&&ps.all okK
def yV (f:List D->Option Sl):Prop:=∀ (w:Bool) (ps:List Pk),ps.length<1000->f [sq w (ps.map pkD)]=some (.deep,.bl (okP ps))
theorem FN (hg:pC g):yV (bj 1 2 (og g)):=λw ps hlen=>by
 refine ao rfl ?_;unfold og okP;have hc:dt leD leD (cI 1) (biF bP (ag (va 0) aC)) (cD (.int 6)) [some (sq w (ps.map pkD)),none]=some (.bl (decide (1<=ps.length)&&decide (ps.length<=6))):=by
  simp;by_cases h:1<=ps.length
  ·have h':(1:Int)<=(ps.length:Int):=by omega
   simp[h,h'];omega
  ·have h':¬ (1:Int)<=(ps.length:Int):=by omega
   simp[h,h']
 have hi:biF iK (ag (va 0) (ag (tpF (ag (cT "list") (ag (cT "tuple") aC))) aC)) [some (sq w (ps.map pkD)),none]=some (.bl true):=by
  cases w<;>simp[sq]
 have hT:orQ (dG (trF (biF iK (ag (va 0) (ag (tpF (ag (cT "list") (ag (cT "tuple") aC))) aC))))) (dG (ar (dt leD leD (cI 1) (biF bP (ag (va 0) aC)) (cD (.int 6))))) [some (sq w (ps.map pkD)),none]=some (!(decide (1<=ps.length)&&decide (ps.length<=6))):=by
  rw[yJ,notQ_a,trF_a,hi,notQ_a,testB_a,hc];rfl
 cases hb:(decide (1<=ps.length)&&decide (ps.length<=6))with
 |false=>
  rw[hb]at hT;exact aN ((gQ hT).trans (aN (dH (evX_lf (d:=.bl false) rfl rfl))))
 |true=>
  rw[hb]at hT;refine(az (Y':=aq 2 [sq w (ps.map pkD)]) ((eh hT).trans rfl)).trans ?_;refine aN (dH (evX_lf ?_ rfl));have hm:au [1] (jX noV (va 0)) (gNm 1) tQ (clF g (ag (va 1) aC)) [some (sq w (ps.map pkD)),none]=some (ps.map λp=>.bl (okK p)):=by
   refine aB (mk:=pkD) (by simp) (λp _=>?_) (Nat.lt_trans hlen (by decide));simp[hg p]
  simp[aq,hm,iS]
abbrev Ps:=List (Bool×List Pk)
def paD (p:Bool×List Pk):D:=sq p.1 (p.2.map pkD)
def prod:List (List Pk)->Nat
 |[]=>1
 |p::r=>p.length*prod r
theorem bS:∀a b:List (List Pk),prod (a++b)=prod a*prod b
 |[],b=>by simp[prod]
 |p::a,b=>by simp only[List.cons_append,prod,bS a b,Nat.mul_assoc]
theorem cV (a:List (List Pk)) (p:List Pk):prod (a++[p])=prod a*p.length:=by rw[bS];simp[prod]
theorem lt_big (h:-1000000<j) (h2:j<1000000):-18446744073709551616<j/\j<18446744073709551616:=by grind
theorem ei (h:-1000000<j) (h2:j<1000000):bN (.int i) (.int j)=some (.int (i*j)):=FJ (lt_big h h2).1 (lt_big h h2).2
theorem yW {n:Nat} (h:n<1000):bN (.int i) (.int (n:Int))=some (.int (i*n)):=ei (by omega) (by omega)
def mf (f:List D->Option Sl):Prop:=∀ (w:Bool) (pss:Ps),(∀p∈pss,p.2.length<1000)->f [sq w (pss.map paD)]=some (.deep,.int (prod (pss.map (·.2)):Nat))
theorem tj (A:D) (n:Nat) (p:Bool×List Pk) (hL:p.2.length<1000):
 evX (aa bN (va 1) (biF bP (ag (va 2) aC))) noV noV [some (.sh,A),some (.deep,.int n),some (.sh,paD p)]=some ((.deep,.int (n*p.2.length:Nat)),[some (.sh,A),some (.deep,.int n),some (.sh,paD p)]):=by
 refine evX_lf ?_ rfl
 have e1:(seqD (paD p))=some (p.2.map pkD):=Ck _ _
 simp[e1]
 rw[yW hL]
theorem we (pss:Ps) (i:Nat) (p) (hp:pss[i]?=some p):prod ((pss.take (i+1)).map (·.2))=prod ((pss.take i).map (·.2))*p.2.length:=by
 rw[List.take_succ,hp];simp[cV]
theorem Cm:mf (bj 1 3 l9):=λw pss hl=>by
 refine ao rfl ?_;unfold l9;refine(az (cy (evX_lf (d:=.int 1) rfl rfl))).trans ?_;have L:=gC (J:=jX noV (va 0)) (tg:=eNm 2) (F:=ae (ak 1 (evX (aa bN (va 1) (biF bP (ag (va 2) aC))) noV noV)) nxE) (ds:=pss.map paD)
  (Y:=(aq 3 [sq w (pss.map paD)]).set 1 (some (.deep,.int 1)))
  (λi Y=>∃o,Y=[some (.sh,sq w (pss.map paD)),some (.deep,.int (prod ((pss.take i).map (·.2)):Nat)),o]) (by simp[aq]) ⟨none,rfl⟩ (by
   rintro i d Y hd ⟨o,rfl⟩;rw[getElem?_map]at hd;cases hp:pss[i]? with
   |none=>rw[hp]at hd;cases hd
   |some p=>
    rw[hp]at hd;cases hd;have hL:p.2.length<1000:=hl p (mem_of_getElem? hp);rw[we pss i p hp];exact⟨_,az (cy (tj (sq w (pss.map paD)) _ p hL)),⟨some (.sh,paD p),rfl⟩⟩)
 obtain⟨Y',e,o,rfl⟩:=L;refine(az e).trans (aN ?_);simp[rtN,gI]
structure Valid (pss:List (List Pk)):Prop where
 len:pss.length<=6
 each:∀p∈pss,okP p=true
 codes:prod pss<=1000
theorem Valid.p (h:Valid pss) {p:List Pk} (hp:p∈pss):1<=p.length/\p.length<=6/\∀k∈p,0<=k.2/\k.2<=9:=by
 have:=h.each p hp;unfold okP at this;rw[and_eq_true,and_eq_true,List.all_eq_true]at this;refine⟨of_decide_eq_true this.1.1,of_decide_eq_true this.1.2,λk hk=>?_⟩;have hk:=this.2 k hk;unfold okK at hk;grind
def FO (f:List D->Option Sl):Prop:=∀ (w:Bool) (pss:Ps),Valid (pss.map (·.2))->f [sq w (pss.map paD)]=some (.deep,.bl true)
theorem Jo (hg:yV g) (hc:mf c):FO (bj 1 2 (iT c g)):=λw pss hv=>by
 refine ao rfl ?_;unfold iT;have hl6:pss.length<=6:=by have:=hv.len;simpa using this
 have hp:∀p∈pss,p.2.length<1000:=λp hp=>by
  have:=(hv.p (List.mem_map_of_mem hp)).2.1;omega
 have hT:orQ (dG (trF (biF iK (ag (va 0) (ag (tpF (ag (cT "list") (ag (cT "tuple") aC))) aC))))) (ar (aa gtD (biF bP (ag (va 0) aC)) (cD (.int 6)))) [some (sq w (pss.map paD)),none]=some false:=by
  have h:¬ (6:Int)<(pss.length:Int):=by omega
  cases w<;>simp[sq,h]
 refine(az (Y':=aq 2 [sq w (pss.map paD)]) ((eh hT).trans rfl)).trans ?_;refine aN (dH (evX_lf ?_ rfl));have hm:au [1] (jX noV (va 0)) (gNm 1) tQ (clF g (ag (va 1) aC)) [some (sq w (pss.map paD)),none]=some (pss.map λp=>.bl (okP p.2)):=by
  refine aB (mk:=paD) (by simp) (λp hpm=>?_) (lt_of_le_of_lt hl6 (by decide));have:=hg p.1 p.2 (hp p hpm);simp[paD,this]
 have ha:pss.all (λp=>okP p.2)=true:=by
  rw[List.all_eq_true];intro p hpm;exact hv.each _ (List.mem_map_of_mem hpm)
 have h1000:((prod (pss.map (·.2)):Nat):Int)<=1000:=by have:=hv.codes;omega
 simp[aq,hm,iS,ha,hc w pss hp];exact h1000
def aA (ps:List (List Pk)):D:=.tup (ps.map tpD)
def af (ps:List (List Pk)):D:=.obj "Mill" ["passes"] [aA ps]
def gM (fa:List D->Option Sl):List D->Option (List (Str×D))
 |[d]=>(gJ (fa [d])).bind λb=>(vB b).bind λt=>if t=true then(au [2] (jX noV (va 1)) (gNm 2) tQ (biF b6 (ag (va 2) aC)) [none,some d,none]).bind λl=>some [(("passes":Str),.tup l)]else none
 |_=>none
theorem Co {R Sp} (h:R (vw Y)=some d) (hs:Sp (vw Y)=none) (h2:R (shv Y)=some d):∃c,evX R noV Sp Y=some ((c,d),Y):=by
 cases f:lfD d with
 |true=>exact⟨_,evX_lf h f⟩
 |false=>exact⟨_,yI h f rfl hs rfl h2⟩
theorem tm (ds:List D) (r:List (Str×D)) (h:gM fa ds=some r) (y:Addr):xC 2 3 (ma fa) y ds=some r:=by
 cases ds with
 |nil=>cases h
 |cons d t=>
  cases t with
  |cons _ _=>cases h
  |nil=>
   obtain⟨b,h1,h⟩:=bind_some (show(gJ (fa [d])).bind _=some r from h);obtain⟨t,h2,h⟩:=bind_some h;cases t with
   |false=>cases h
   |true=>
    obtain⟨l,h3,h4⟩:=bind_some (show(au [2] (jX noV (va 1)) (gNm 2) tQ (biF b6 (ag (va 2) aC)) [none,some d,none]).bind _=some r from h);cases h4;have h3':au [2] (jX noV (va 1)) (gNm 2) tQ (biF b6 (ag (va 2) aC)) [some (.adr y),some d,none]=some l:=by
     rw[<-h3];unfold au;simp;cases seqD d with
     |none=>rfl
     |some ps=>
      simp;rfl
    show ma fa y (sG 3 y [d]) []=_;unfold ma;have hst:sG 3 y [d]=[some (.sh,.adr y),some (.sh,d),none]:=rfl;rw[hst];have e1:(ifS (dG (trF (clF fa (ag (va 1) aC)))) (ae noO' nxE) nxE) [some (.sh,.adr y),some (.sh,d),none]=some (.nx [some (.sh,.adr y),some (.sh,d),none]):=by
     refine(eh ?_).trans rfl;simp[h1,h2]
    unfold stI;rw[e1];simp only[Option.bind_some];obtain⟨c,e2⟩:=Co (R:=biF b6 (ag (lsF (au [2] (jX noV (va 1)) (gNm 2) tQ (biF b6 (ag (va 2) aC)))) aC)) (Sp:=fNo (ag (lsF (au [2] (jX noV (va 1)) (gNm 2) tQ (biF b6 (ag (va 2) aC)))) aC)) (Y:=[some (.sh,.adr y),some (.sh,d),none]) (d:=.tup l)
     (by simp[h3']) (by simp) (by simp[h3'])
    unfold BG;rw[e2];simp[gI,BF,qA]
def uQ (g:List D->Option (List (Str×D))):Prop:=∀ (w:Bool) (pss:Ps),Valid (pss.map (·.2))->g [sq w (pss.map paD)]=some [(("passes":Str),aA (pss.map (·.2)))]
theorem FP (ha:FO fa):uQ (gM fa):=λw pss hv=>by
 have hl6:pss.length<=6:=by have:=hv.len;simpa using this
 have hm:au [2] (jX noV (va 1)) (gNm 2) tQ (biF b6 (ag (va 2) aC)) [none,some (sq w (pss.map paD)),none]=some (pss.map λp=>tpD p.2):=by
  refine aB (mk:=paD) (by simp) (λp _=>?_) (lt_of_le_of_lt hl6 (by decide));simp[paD,tpD]
 show((gJ (fa [sq w (pss.map paD)])).bind _)=_;rw[ha w pss hv];simp[hm,aA]
theorem qT {β:Type} (xs:List β) (f:β->D) (t:Nat):mX (xs.map f) (some (t:Int)) none=(xs.drop t).map f:=by
 unfold mX;rw[HT.sIx_nat,HT.sIx_none,length_map,<-List.map_drop];by_cases h:t<=xs.length
 ·rw[Nat.min_eq_left h];rw[List.take_of_length_le (by rw[length_map,List.length_drop];omega)]
 ·have h':xs.length<=t:=by omega
  rw[Nat.min_eq_right h',List.drop_eq_nil_of_le (le_refl _),List.drop_eq_nil_of_le h'];simp
theorem iU {β:Type} (xs:List β) (f:β->D) (t:Nat):mX (xs.map f) none (some (t:Int))=(xs.take t).map f:=by
 unfold mX;rw[HT.sIx_nat,HT.sIx_none,length_map,List.drop_zero,Nat.sub_zero,<-List.map_take];grind
theorem qU (hf:fl "Mill" "passes"=true) (ps:List (List Pk)):mY fl "passes" (af ps)=some (aA ps):=by simp_all [Pk,mY,af,aA]
structure WordOk (ps:List (List Pk)) (t:Nat) (w:List Nat):Prop where
 len:w.length=(ps.drop t).length
 each:∀q∈w.zip (ps.drop t),q.1<q.2.length
theorem yX (h:f (vw Y)=some d):lC f Y=some (.nx Y):=by unfold lC;rw[h];rfl
def LO (q:Nat×List Pk):Pk:=q.2[q.1]?.getD (true,0)
theorem uR {v:Nat->Int} (I:Nat->Ev->Prop) (hJ:J (shv Y)=some ((List.range n).map λi=>D.int (v i))) (h0:I 0 Y) (hs:∀ (i:Nat) (Y:Ev),i<n->I i Y->∃Y',F (Y.set s (some (.sh,.int (v i))))=some (.nx Y')/\I (i+1) Y'):∃Y',frF J (eNm s) F Y=some (.nx Y')/\I n Y':=by
 obtain⟨Y',e,i⟩:=gC (tg:=eNm s) (F:=F) I hJ h0 (λi d Y hd hi=>by
  rw[getElem?_map]at hd;cases hp:(List.range n)[i]? with
  |none=>rw[hp]at hd;cases hd
  |some p=>
   rw[hp]at hd;cases hd;obtain⟨hl,e⟩:=List.getElem?_eq_some_iff.mp hp;rw[List.getElem_range]at e;subst e;rw[length_range]at hl;exact hs i Y hl hi)
 grind
theorem vw_o (o:Option Sl) (Y:Ev):vw (o::Y)=o.map (·.2)::vw Y:=rfl
def scD (ns:List Int):D:=.lst (ns.map D.int)
@[simp] theorem LP (ns:List Int):seqD (scD ns)=some (ns.map D.int):=rfl
@[simp] theorem M5 (ns:List Int):lfD (scD ns)=false:=rfl
theorem Jp (ns:List Int):lfL (ns.map D.int)=true:=bM λd hd=>by
 obtain⟨p,_,rfl⟩:=List.mem_map.mp hd;rfl
theorem Jq (h:0<=i) (h2:i<ns.length):∃v,ixD (scD ns) (.int i)=some (.int v):=⟨_,Cj h h2⟩
theorem yY (h:0<=i) (h2:i<1000000000039):bN (.int i) (.int j)=some (.int (i*j)):=pz (Int.lt_of_lt_of_le (by decide) h) (Int.lt_trans h2 (by decide))
theorem LQ (P:D->Prop) (h:0<=i) (h2:i<ds.length) (ha:∀d∈ds,P d):∃d,P d/\atI ds i=some d:=by
 have hl:i.toNat<ds.length:=by omega
 exact⟨ds[i.toNat],ha _ (List.getElem_mem hl),lY h (getElem?_eq_getElem hl)⟩
theorem md (i:Int) (h:0<j):0<=i%j/\i%j<j:=⟨Int.emod_nonneg _ (by omega),Int.emod_lt_of_pos _ h⟩
theorem Cp (i j:Int) (h:0<j):aT (.int i) (.int j)=some (.int (i%j)):=aP h
theorem yZ (h1:1<=p.length) (h6:p.length<=6) (h:∀k∈p,okK k=true):okP p=true:=by
 unfold okP;grind
theorem y0 {a b:Nat} (ha:a<1000000):bN (.int (a:Int)) (.int (b:Int))=some (.int ((a*b:Nat):Int)):=by
 rw[Int.natCast_mul];exact pz (Int.lt_of_lt_of_le (by decide) (Int.natCast_nonneg a)) (Int.lt_trans (show(a:Int)<1000000 by omega) (by decide))
end L2
namespace L2
open PySem PySem.Spec PyProof.Rows
theorem LR (q:Bool):decide (kd q=("queue":Str))=q:=by cases q<;>decide
def lay (q:Bool) (a c:Int):Int:=if q=true then c else a-1-c
def y2 (f:List D->Option Sl):Prop:=∀ (q:Bool) (a c:Int),f [.str (kd q),.int a,.int c]=some (.deep,.int (lay q a c))
theorem FQ:y2 (bj 3 3 yR):=λq a c=>by
 refine ao rfl ?_;unfold yR;refine aN (dH (evX_lf ?_ rfl));have hs:aq 3 [.str (kd q),.int a,.int c]=[some (.sh,.str (kd q)),some (.sh,.int a),some (.sh,.int c)]:=rfl;rw[hs];simp only[vw_some,vw_none,vw_nil,lX,testB_a,bin2_a,va_a,shAt_s,shAt_0,shAt_1,cS_a,cI_a,Option.bind_some,qS,Bool.false_eq_true,if_false,asB_bl,LR,subD_ii,lay];cases q<;>rfl
end L2
namespace L2
open PySem PySem.Spec PyProof.Rows
theorem FR {K} {st} (n k:Nat) (X:K.In h) (hN:h.Ns mainGlobals mg) (hfa:mg "law"=some (.ref fa)) (S:FnScope N ["script"] (aj st)) (b:cx "law" st ["script"]) (t:bo K "law" st) (g:∀base:Heap,K.In base->base.Ns mainGlobals mg->GbOk P w K mg base G) (hf:∀ns:List Int,ns.length<=63->gJ (dfn n k N ["script"] st G [.lst (ns.map D.int)])=some (.bl true)):
  ∃fd:FuncData,(∀ (s:Shared) (v:Value),BindsTo s fd ⟨[v],[]⟩ [("script",v)])/\∀base:Heap,K.In base->base.Ns mainGlobals mg->FnOk P w K mg base CX0 (k+1) fa fd ["script"] (spL K):=by
 obtain⟨f,oc,od,an,osl,kV,doc,pm,cdv,ct,h1,h2,h3,h4⟩:=t
 have e:=hfa.symm.trans (PySem.W.mg_of X hN h1)
 cases e
 have Fn:=kW (st:=st) h2 h3 h4
 refine⟨_,λs v=>.of_eq (b "law" kV doc pm an cdv ct [v] rfl),λbase KB hB=>FG (f:=dfn n k N ["script"] st G) (E8 Fn S λcdv A outer s H E hr=>?_) hf⟩
 exact(qN n).2 _ _ (qQ (g base KB hB) S cdv A outer s H E hr) _
theorem cn_int {K} (X:K.In h) (hN:h.Ns mainGlobals mg) (t:∃t,nsIn K mainGlobals x=some (some (.int i t))):Cn K mg x (.int i):=by
 obtain⟨t,e⟩:=t;exact⟨_,_,PySem.W.mg_of X hN e,(show RelV (.int i) _ from⟨t,rfl⟩),λH=>rfl⟩
theorem cn_2str {K} (X:K.In h) (hN:h.Ns mainGlobals mg) (t:∃ (a:Addr) (od:Option Addr) (n:Nat) (sl:Array (Option Value)) (t0:Tok) (t1:Tok),nsIn K mainGlobals x=some (some (.ref a))/\K.lookup a=some ⟨.type "tuple",od,.seq #[.str y t0,.str z t1] n,sl⟩):Cn K mg x (.tup [.str y,.str z]):=by
 obtain⟨a,od,n,sl,t0,t1,e,l⟩:=t;refine⟨.ref a,_,PySem.W.mg_of X hN e,rfl,λH=>⟨a,[.str y,.str z],rfl,.inr ⟨_,_,n,l,rfl,rfl,?_,?_⟩,⟨_,_,rfl,rfl,⟨_,_,rfl,rfl,rfl⟩⟩⟩⟩
 ·show 2<=sizeLine;decide
 ·exact .cons ⟨t0,rfl⟩ (.cons ⟨t1,rfl⟩ .nil)
theorem fl_one {K} (t:∃Ca,nsIn K mainGlobals C=some (some (.ref Ca))/\findIn K (.ref Ca) m=some none) (h:f=m):∀Ca,nsIn K mainGlobals C=some (some (.ref Ca))->NoAttr K Ca f:=by grind [NoAttr]
theorem Cq {K} (c:TCls K C) (hc:nsIn K mainGlobals C=some (some (.ref Ca))):Cls K Ca:=by
 obtain⟨Cb,e,cl,_,_⟩:=c.ex;grind
theorem LS {K} {st} {kV doc pm cdv ct} (a:nsIn K mainGlobals x=some (some (.ref f))) (l:K.lookup f=some ⟨oc,od,.func (PySem.W.fnOf x x (bV st) (aK st) (aj st) .none kV doc pm an cdv ct),osl⟩) (c:PySem.W.codeIn K cdv x=true) (k:PySem.W.keepIn K (.ref f)=true):bo K x st:=⟨f,oc,od,an,osl,kV,doc,pm,cdv,ct,a,l,c,k⟩
theorem LU {K} {st} {kV doc pm cdv ct} (a:nsIn K mainGlobals C=some (some (.ref Ca))) (n:findIn K (.ref Ca) m=some (some (.ref f))) (i:PySem.W.isFn K (.ref f)=true) (l:K.lookup f=some ⟨oc,od,.func (PySem.W.fnOf m qual (bV st) (aK st) (aj st) .none kV doc pm an cdv ct),osl⟩) (c:PySem.W.codeIn K cdv qual=true) (k:PySem.W.keepIn K (.ref f)=true):yH K C m qual st:=by grind [bV,aK,aj,yH]
theorem LV {K} (a:nsIn K mainGlobals C=some (some (.ref Ca))) (pg:PySem.W.plainGet K Ca Str.empty=true) (hd:PySem.W.hasDictIn K Ca=true) (po:PySem.W.plainOver K Ca=true) (sa:findIn K (.ref Ca) "__setattr__"=some (some (.builtin "object.__setattr__"))) (mk:PySem.W.makesIn K Ca=true) (kc:PySem.W.keepIn K (.ref Ca)=true):TCls K C:=⟨Ca,a,⟨pg,hd,po,sa⟩,mk,kc⟩
theorem tno {K} (a:nsIn K mainGlobals C=some (some (.ref Ca))) (n:findIn K (.ref Ca) m=some none):∃Ca,nsIn K mainGlobals C=some (some (.ref Ca))/\findIn K (.ref Ca) m=some none:=⟨Ca,a,n⟩
theorem y3 {K} (a:nsIn K mainGlobals x=some (some (.int i t))):∃t,nsIn K mainGlobals x=some (some (.int i t)):=⟨t,a⟩
theorem Jr {K} (e:nsIn K mainGlobals x=some (some (.ref a))) (l:K.lookup a=some ⟨.type "tuple",od,.seq #[.str y t0,.str z t1] n,sl⟩):
 ∃ (a:Addr) (od:Option Addr) (n:Nat) (sl:Array (Option Value)) (t0:Tok) (t1:Tok),nsIn K mainGlobals x=some (some (.ref a))/\K.lookup a=some ⟨.type "tuple",od,.seq #[.str y t0,.str z t1] n,sl⟩:=⟨a,od,n,sl,t0,t1,e,l⟩
structure Chg (S:List Addr) (N:Addr->Prop) (h h':Heap):Prop where
 keep:∀b o,h.get? b=some o->b ∉ S->¬N b->h'.get? b=some o
 slot:∀b o,h.get? b=some o->¬N b->∃sl,h'.get? b=some {o with slots:=sl}
 there:∀b o,h.get? b=some o->∃o',h'.get? b=some o'
theorem Chg.trans {S:List Addr} {N:Addr->Prop} {h k1 h2:Heap} (a:Chg S N h k1) (b:Chg S N k1 h2):Chg S N h h2 where
 keep:=λc o q x y=>b.keep c o (a.keep c o q x y) x y
 slot:=λc o q y=>by
  obtain⟨sl,e⟩:=a.slot c o q y;obtain⟨sl',e'⟩:=b.slot c _ e y;exact⟨sl',e'⟩
 there:=λc o q=>by
  obtain⟨o',e⟩:=a.there c o q;exact b.there c o' e
theorem Chg.of (k:∀b o,h.get? b=some o->h'.get? b=some o):Chg S N h h':=
 ⟨λb o q _ _=>k b o q,λb o q _=>⟨o.slots,k b o q⟩,λb o q=>⟨o,k b o q⟩⟩
theorem Chg.upd {S:List Addr} {N:Addr->Prop} {h:Heap} {a:Addr} {o:Obj} {vs:Array Value} (f:Array Value->Array Value) (e:h.get? a=some o) (d:o.data=.fields vs) (n:N a):Chg S N h (h.update a (Obj.mapFields f)) where
 keep:=λb u q _ y=>by
  have hb:b≠a:=λz=>y (z▸n);rw[Heap.get?_update_other _ _ (Ne.symm hb)];exact q
 slot:=λb u q y=>by
  have hb:b≠a:=λz=>y (z▸n);exact⟨u.slots,by rw[Heap.get?_update_other _ _ (Ne.symm hb)];exact q⟩
 there:=λb u q=>by
  by_cases hb:b=a
  ·subst hb;exact⟨_,Heap.get?_update_self _ e (Obj.isFreed_of_fields (Obj.data_mapFields d f))⟩
  ·exact⟨u,by rw[Heap.get?_update_other _ _ (Ne.symm hb)];exact q⟩
theorem y4 (f:Array Value->Array Value) (o:Obj):(Obj.mapFields f o).dict=o.dict:=by
 unfold Obj.mapFields;split<;>rfl
def TrX (h:Heap) (N:Addr->Prop) (e:Addr) (cls fl:Value):Prop:=
 ∃oe vs T oT ts,h.get? e=some oe/\(oe.cls=cls/\oe.dict=none)/\oe.data=.fields vs/\N e/\vs[1]?=some (.ref T)/\N T/\T≠e/\h.get? T=some oT/\oT.data=.fields ts/\ts[3]?=some fl
def NwX (h:Heap) (N:Addr->Prop) (e:Addr) (cls:Value):Prop:=
 ∃oe vs,h.get? e=some oe/\(oe.cls=cls/\oe.dict=none)/\oe.data=.fields vs/\N e/\vs[1]?=some .none
theorem TrX.mono (i:∀b,N b->N' b):TrX h N e cls fl->TrX h N' e cls fl:=by grind [TrX]
def AnyX (h:Heap) (N:Addr->Prop) (e:Addr) (cls:Value) (L:Addr):Prop:=NwX h N e cls\/TrX h N e cls .none\/TrX h N e cls (rawInt L)
theorem AnyX.mono (i:∀b,N b->N' b):AnyX h N e cls L->AnyX h N' e cls L
 |.inl ⟨oe,vs,a1,a2,a3,a4,a5⟩=>.inl ⟨oe,vs,a1,a2,a3,i _ a4,a5⟩
 |.inr (.inl t)=>.inr (.inl (t.mono i))
 |.inr (.inr t)=>.inr (.inr (t.mono i))
section
variable {M:Model} {A:Around} {E:Value->Shared->Prop} {s:Shared} {N:Addr->Prop}
theorem y6 (fq:A.frames=some (env::outer)) (lf:s.heap.FunFrames base (env::outer)) (ff:env.frame=some L) (ge:s.heap.get? e=some oe) (dn:oe.dict=none) (hd1:oe.data=.fields vs) (hsz:1<vs.size) (hN:∀b,s.heap.get? b=none->N b) (ne:N e) (h:∀h',Chg (frs (env::outer)) N s.heap h'->TrX h' N e oe.cls (rawInt L)->Q () {s with heap:=h'}):
  wpAny M A (do let a<-frameOf env;let pk<-entryPlaceOf L b;let c<-EntryCells.newEntry hd a .none (rawInt L) .none pk;setField (.ref e) 1 c) Q E s:=by
 refine wpAny_bind (wpAny_frameOf_fun fq lf ff λg₁ so=>?_)
 refine wpAny_bind (wpAny_entryPlaceOf λpk pq=>?_)
 have fr:e ∉ frs (env::outer):=λz=>by
  obtain⟨_,o,q,w⟩:=lf.mem z;rw[ge]at q;cases q;exact w vs hd1
 have c1:Chg (frs (env::outer)) N s.heap g₁:=⟨λc o q x _=>(so.2.1 c x).trans q,λc o q _=>so.2.2 c o q,λc o q=>(so.2.2 c o q).elim λsl z=>⟨_,z⟩⟩
 have he₁:g₁.get? e=some oe:=(so.2.1 e fr).trans ge
 unfold EntryCells.newEntry newFields
 refine wpAny_bind (wpAny_newObj_type ?_ (pq.sizeOk5 _ _ _ _ _))
 have he₂:=Heap.get?_push_of_some (h:=g₁) {cls:=.type "traceback",data:=.fields ([hd,.ref L,.none,rawInt L,.none]++(if pk.isEmpty then List.replicate 6 Value.none else pk)).toArray} he₁
 have c2:Chg (frs (env::outer)) N g₁ (g₁.push {cls:=.type "traceback",data:=.fields ([hd,.ref L,.none,rawInt L,.none]++(if pk.isEmpty then List.replicate 6 Value.none else pk)).toArray}):=Chg.of λc o q=>Heap.get?_push_of_some _ q
 refine wpAny_setField he₂ hd1 hsz (h _ ((c1.trans c2).trans (Chg.upd _ he₂ hd1 ne)) ?_)
 have ne':g₁.objs.size≠e:=Nat.ne_of_gt (Heap.lt_size he₁)
 have nT:N g₁.objs.size:=hN _ (Heap.get?_none_of_le (by rw[so.1];exact le_refl _))
 have d3:=Obj.data_mapFields hd1 (·.setIfInBounds 1 (Value.ref g₁.objs.size))
 refine⟨_,_,g₁.objs.size,_,_,Heap.get?_update_self _ he₂ (Obj.isFreed_of_fields d3),⟨Obj.cls_mapFields _ _,(y4 _ _).trans dn⟩,d3,ne,by simp[hsz],nT,ne',(Heap.get?_update_other _ _ (Ne.symm ne')).trans (Heap.get?_push_size g₁ rfl),rfl,?_⟩
 first|(simp;done)|(rcases pq with rfl|⟨_,_,_,_,_,_,_,rfl⟩<;>simp)
theorem y7 (fq:A.frames=some (env::outer)) (lf:s.heap.FunFrames base (env::outer)) (ff:env.frame=some L) (hN:∀b,s.heap.get? b=none->N b) (hx:AnyX s.heap N e cls L) (h:∀h',Chg (frs (env::outer)) N s.heap h'->TrX h' N e cls (rawInt L)->Q () {s with heap:=h'}):
  wpAny M A (noteFrame (.ref e) env) Q E s:=by
 unfold noteFrame
 simp only[ff]
 rcases hx with⟨oe,vs,ge,⟨hc,dn⟩,hd,ne,k1⟩|⟨oe,vs,T,oT,ts,ge,⟨hc,dn⟩,hd,ne,k1,nT,hT,eT,dT,k3⟩|t
 ·subst hc;refine wpAny_bind (wpAny_field ge hd k1 ?_);rw[if_neg (by decide)];exact y6 fq lf ff ge dn hd (Array.getElem?_eq_some_iff.mp k1).1 hN ne h
 ·subst hc;refine wpAny_bind (wpAny_field ge hd k1 ?_);rw[if_pos (show(Value.ref T !=Value.none)=true by simp)];refine wpAny_bind (wpAny_field eT dT k3 ?_);rw[if_neg (show¬ ((Value.none==rawInt L)=true)by simp[rawInt])];refine wpAny_bind (wpAny_setField eT dT (Array.getElem?_eq_some_iff.mp k3).1 ?_);have c0:Chg (frs (env::outer)) N s.heap (s.heap.update T (Obj.mapFields (·.setIfInBounds 3 Value.none))):=Chg.upd _ eT dT nT;refine y6 (base:=base) (s:={s with heap:=s.heap.update T (Obj.mapFields (·.setIfInBounds 3 Value.none))}) (oe:=oe) (vs:=vs) fq ?_ ff ?_ dn hd (Array.getElem?_eq_some_iff.mp k1).1 ?_ ne λh' c t=>h h' (c0.trans c) t
  ·refine lf.of_keeps λb o q w=>?_;have hb:b≠T:=λz=>by
    rw[z,eT]at q;cases q;exact w ts dT
   exact⟨o,by rw[Heap.get?_update_other _ _ (Ne.symm hb)];exact q,rfl⟩
  ·rw[Heap.get?_update_other _ _ hT];exact ge
  ·intro b q;cases e2:s.heap.get? b with
   |none=>exact hN b e2
   |some o=>
    obtain⟨o',z⟩:=c0.there b o e2;rw[z]at q;cases q
 ·have t':=t;obtain⟨oe,vs,T,oT,ts,ge,hc,hd,ne,k1,nT,hT,eT,dT,k3⟩:=t;refine wpAny_bind (wpAny_field ge hd k1 ?_);rw[if_pos (show(Value.ref T !=Value.none)=true by simp)];refine wpAny_bind (wpAny_field eT dT k3 ?_);rw[if_pos (show(rawInt L==rawInt L)=true by simp)];exact wpAny_pure (h s.heap (Chg.of λ_ _ q=>q) t')
theorem pD (hx:TrX s.heap N e cls fl) (h:∀h',Chg S N s.heap h'->TrX h' N e cls .none->Q () {s with heap:=h'}):wpAny M A (setFlight (.ref e) none) Q E s:=by
 obtain⟨oe,vs,T,oT,ts,ge,hc,hd,ne,k1,nT,hT,eT,dT,k3⟩:=hx;have z3:3<ts.size:=(Array.getElem?_eq_some_iff.mp k3).1;unfold setFlight;refine wpAny_bind (wpAny_field ge hd k1 ?_);rw[if_pos (show(Value.ref T !=Value.none)=true by simp)];refine wpAny_setField eT dT z3 (h _ (Chg.upd _ eT dT nT) ?_);refine⟨oe,vs,T,_,_,?_,hc,hd,ne,k1,nT,hT,Heap.get?_update_self _ eT (Obj.isFreed_of_fields (Obj.data_mapFields dT _)),Obj.data_mapFields dT _,by simp[z3]⟩;rw[Heap.get?_update_other _ _ hT];exact ge
theorem Cr {L:Addr} (hx:TrX s.heap N e cls fl) (h:∀h',Chg S N s.heap h'->TrX h' N e cls (rawInt L)->Q () {s with heap:=h'}):wpAny M A (do
   if(<-field (.ref e) 1)==.none then unsupported "frame.own-activation:exception-without-traceback"
   setFlight (.ref e) (some L)) Q E s:=by
 obtain⟨oe,vs,T,oT,ts,ge,hc,hd,ne,k1,nT,hT,eT,dT,k3⟩:=hx
 have z3:3<ts.size:=(Array.getElem?_eq_some_iff.mp k3).1
 refine wpAny_bind (wpAny_field ge hd k1 ?_)
 rw[if_neg (show¬ ((Value.ref T==Value.none)=true)by simp)]
 have step:wpAny M A (setFlight (.ref e) (some L)) Q E s:=by
  unfold setFlight;refine wpAny_bind (wpAny_field ge hd k1 ?_);rw[if_pos (show(Value.ref T !=Value.none)=true by simp)];refine wpAny_setField eT dT z3 (h _ (Chg.upd _ eT dT nT) ?_);refine⟨oe,vs,T,_,_,?_,hc,hd,ne,k1,nT,hT,Heap.get?_update_self _ eT (Obj.isFreed_of_fields (Obj.data_mapFields dT _)),Obj.data_mapFields dT _,by simp[z3]⟩;rw[Heap.get?_update_other _ _ hT];exact ge
 grind
theorem FS (fq:A.frames=some (env::outer)) (lf:s.heap.FunFrames base (env::outer)) (ff:env.frame=some L) (hN:∀b,s.heap.get? b=none->N b) (hx:AnyX s.heap N e cls L) (h:∀h',Chg (frs (env::outer)) N s.heap h'->TrX h' N e cls .none->Q () {s with heap:=h'}):
  wpAny M A (leaving env (.ref e)) Q E s:=by
 unfold leaving
 refine wpAny_bind (y7 fq lf ff hN hx λk1 c1 t1=>?_)
 exact pD (s:={s with heap:=k1}) t1 λh2 c2 t2=>h h2 (c1.trans c2) t2
end
theorem ObjOk.has (x:ObjOk P w H h a o):∃u,h.get? a=some u:=by
 cases o with
 |lst xs=>obtain⟨_,_,_,_,e⟩:=x;exact⟨_,e⟩
 |tup xs=>obtain⟨_,_,_,_,e,_⟩:=x;exact⟨_,e⟩
 |dK kvs=>obtain⟨_,_,_,_,o,_,_,e,_⟩:=x;exact⟨_,e⟩
 |dT kvs=>obtain⟨_,_,_,_,o,_,_,e,_⟩:=x;exact⟨_,e⟩
 |set S n=>obtain⟨o,_,_,_,e,_⟩:=x;exact⟨_,e⟩
 |ins C dx fs=>obtain⟨_,_,_,e,_⟩:=x;exact⟨_,e⟩
 |own y=>obtain⟨_,e⟩:=x;exact⟨_,e⟩
 |xd fs=>obtain⟨_,⟨_,_,_,e,_⟩,_⟩:=x;exact⟨_,e⟩
 |rng lo hi=>obtain⟨_,_,_,e⟩:=x;exact⟨_,e⟩
 |frz ob u=>obtain⟨e,_⟩:=x;exact⟨_,e⟩
 |tbl ps=>exact⟨_,(show h.get? a=some _ from x)⟩
 |met f y=>exact⟨_,(show h.get? a=some _ from x)⟩
 |ext φ=>obtain⟨_,⟨_,e⟩,_⟩:=x;exact⟨_,e⟩
def New (g:Heap) (H:Hp) (b:Addr):Prop:=g.get? b=none/\H b=none
theorem Un.chg {fs:List Addr} {L:Addr} {H0 H:Hp} {g h h':Heap} (u:Un fs [] H0 H g h) (c:Chg (L::fs) (New g H) h h') (hL:g.get? L=none):Un fs [] H0 H g h' where
 keep:=λb o q n x y=>c.keep b o (u.keep b o q n x y) (λz=>(mem_cons.mp z).elim (λe=>by rw[e,hL]at q;cases q) x) λz=>by rw[z.1]at q;cases q
 slot:=λb o q n x y=>by
  obtain⟨sl,e⟩:=u.slot b o q n x y;obtain⟨sl',e'⟩:=c.slot b _ e λz=>by rw[z.1]at q;cases q
  exact⟨sl',e'⟩
 free:=u.free
 there:=λb o q y=>by
  obtain⟨o',e⟩:=u.there b o q y;exact c.there b o' e
 tups:=u.tups
 frzs:=u.frzs
 tbls:=u.tbls
theorem HOk.chg (x:HOk P w H h) (c:Chg S (New g H) h h') (hS:∀b∈S,H b=none):HOk P w H h':=λa o e=>
 (x a o e).stay (λb u z q=>by
  have hb:H b≠none:=by
   rcases z with rfl|z
   ·rw[e];intro y;cases y
   ·rw[z];intro y;cases y
  exact c.keep b u q (λy=>hb (hS b y)) λy=>hb y.2) (λ_ q=>q) λ_ _ q=>q
def CXE (P:Program) (w:World):CXT:=λouter H s E e s'=>
 ∃a C H',e=.ref a/\TrX s'.heap (New s.heap H') a (.ref C) .none/\s'.os=s.os/\AllBare s'.gens/\Un (frs outer) [] H H' s.heap s'.heap/\HOk P w H' s'.heap/\E (.ref C) none H'
section
variable {P:Program} {w:World} {K:Frag} {mg:Str->Option Value} {base:Heap} {NN:List Str} {qual:Str} {scope:Scope} {f:Addr} {cd:Value} {A:Around} {outer:List Env} {s0:Shared} {H0:Hp} {E:XK}
theorem LW {σ:St} (I:Inv (ic (CXE P w) P w K mg base NN qual scope f cd A outer s0 H0 E) pins σ H s') (hx:AnyX s'.heap (New s0.heap H) e (.ref C) s0.heap.objs.size) (q:E (.ref C) none H):
  (ic (CXE P w) P w K mg base NN qual scope f cd A outer s0 H0 E).xe (.ref e) s':=by
 have ff:(envOfC qual scope s0.heap.objs.size f cd).frame=some s0.heap.objs.size:=rfl
 have hN:∀b,s'.heap.get? b=none->New s0.heap H b:=λb z=>by
  refine⟨?_,?_⟩
  ·cases e2:s0.heap.get? b with
   |none=>rfl
   |some o=>
    obtain⟨o',y⟩:=I.base.there b o e2 (by intro y;cases y);rw[y]at z;cases z
  ·cases e2:H b with
   |none=>rfl
   |some o=>
    obtain⟨o',z'⟩:=(I.hok b o e2).has;rw[z']at z;cases z
 refine FS (base:=base) I.ok.frames I.stack ff hN hx λh' c t=>?_
 refine⟨e,C,H,rfl,t,I.os,I.bare,?_,?_,q⟩
 ·refine Un.chg (L:=s0.heap.objs.size) I.base ?_ (Heap.get?_none_of_le (le_refl _));exact c
 ·exact HOk.chg I.hok c I.stkFree
end
def NP (X:Cx) (pins:List (Addr×Obj)) (H:Hp) (b:Addr):Prop:=
 X.s₀.heap.get? b=none/\H b=none/\b≠X.env.locals/\(∀x c,X.env.cells.lookup x=some c->c≠b)/\(∀p∈X.pn++pins,p.1≠b)/\b ∉ frs X.stack
section
variable {X:Cx} {pins:List (Addr×Obj)} {σ:St} {H H':Hp} {s s':Shared}
theorem Inv.nowh (I:Inv X pins σ H s) (hx:X.ex=[]) (q:s.heap.get? b=none):NP X pins H b:=by
 refine⟨?_,?_,?_,?_,?_,?_⟩
 ·cases e:X.s₀.heap.get? b with
  |none=>rfl
  |some o=>
   obtain⟨o',y⟩:=I.base.there b o e (by rw[hx];intro z;cases z);rw[y]at q;cases q
 ·cases e:H b with
  |none=>rfl
  |some o=>
   obtain⟨o',y⟩:=(I.hok b o e).has;rw[y]at q;cases q
 ·rintro rfl;obtain⟨m,⟨o,_,_,e,_⟩,_⟩:=I.loc;rw[e]at q;cases q
 ·rintro x c e rfl;obtain⟨v,o,e1,_⟩:=I.cell x c e;rw[e1]at q;cases q
 ·rintro p hp rfl;have:=(I.pin p hp).1;rw[this]at q;cases q
 ·intro z;obtain⟨_,o,e,_⟩:=I.stack.mem z;rw[e]at q;cases q
theorem Inv.chg (I:Inv X pins σ H s) (hx:X.ex=[]) (c:Chg (frs X.stack) (NP X pins H) s.heap h'):Inv X pins σ H {s with heap:=h'}:=by
 have out:∀b,b∈frs X.stack->b≠X.env.locals->b∈X.fs:=λb z n=>(mem_cons.mp (I.stkSub b z)).elim (λe=>absurd e n) id;refine⟨I.ok,I.os,I.bare,?_,?_,?_,I.free,I.freeC,?_,?_,I.len⟩
 ·have u:=I.base;refine⟨λb o q n x y=>?_,λb o q n x y=>?_,u.free,λb o q y=>?_,u.tups,u.frzs,u.tbls⟩
  ·refine c.keep b o (u.keep b o q n x y) (λz=>?_) λz=>?_
   ·rcases mem_cons.mp (I.stkSub b z)with e|e
    ·rw[e]at q;exact absurd (Heap.lt_size q) (Nat.not_lt_of_le I.ok.above)
    ·exact x e
   ·rw[z.1]at q;cases q
  ·obtain⟨sl,e⟩:=u.slot b o q n x y;obtain⟨sl',e'⟩:=c.slot b _ e λz=>by rw[z.1]at q;cases q
   exact⟨sl',e'⟩
  ·obtain⟨o',e⟩:=u.there b o q y;exact c.there b o' e
 ·obtain⟨m,⟨o,es,ep,e,r⟩,f⟩:=I.loc;obtain⟨sl,e'⟩:=c.slot _ o e λz=>z.2.2.1 rfl;refine⟨m,⟨_,es,ep,e',r⟩,λi x v a1 a2 a3=>?_⟩;obtain⟨u,r',l⟩:=f i x v a1 a2 a3;refine⟨u,r',?_⟩;rcases l with l|⟨l1,k,l2,o2,e2,d2⟩
  ·exact .inl l
  ·obtain⟨sl2,e3⟩:=c.slot k o2 e2 λz=>z.2.2.2.1 x k l2 rfl;exact .inr ⟨l1,k,l2,_,e3,d2⟩
 ·intro x k l;obtain⟨v,o2,e2,d2⟩:=I.cell x k l;obtain⟨sl2,e3⟩:=c.slot k o2 e2 λz=>z.2.2.2.1 x k l rfl;exact⟨v,_,e3,d2⟩
 ·intro p hp;obtain⟨a1,a2,a3,a4,a5⟩:=I.pin p hp;refine⟨c.keep p.1 p.2 a1 (λz=>?_) (λz=>z.2.2.2.2.1 p hp rfl),a2,a3,a4,a5⟩;rcases mem_cons.mp (I.stkSub _ z)with e|e
  ·exact a3 e
  ·exact a4 e
 ·exactλa o e=>(I.hok a o e).stay (λb u z q=>by
   have hb:H b≠none:=by
    rcases z with rfl|z
    ·rw[e];intro y;cases y
    ·rw[z];intro y;cases y
   exact c.keep b u q (λy=>hb (I.stkFree b y)) λy=>hb y.2.1) (λ_ q=>q) λ_ _ q=>q
theorem Inv.raised {P:Program} {w:World} (I:Inv X pins σ H s) (hx:X.ex=[]) (hc:CXE X.prog X.w X.stack H s E e s'):
  ∃a C H',e=.ref a/\Inv X pins σ H' s'/\TrX s'.heap (NP X pins H') a (.ref C) .none/\E (.ref C) none H':=by
 obtain⟨a,C,H',rfl,t,os,br,u,ok,q⟩:=hc
 have I':=I.call' (ch:=[]) os u ok br λb z=>by cases z
 refine⟨a,C,H',rfl,I',t.mono λb z=>?_,q⟩
 have n:=I.nowh hx z.1
 exact⟨n.1,z.2,n.2.2⟩
end
def SX (X:Cx) (B:Bs) (x:Str) (e:Value) (s:Shared):Prop:=
 ∃a C pins σ H O Y,e=.ref a/\Inv X pins σ H s/\EnvOk X.K B O σ H Y/\nsIn X.K mainGlobals x=some (some (.ref C))/\AnyX s.heap (NP X pins H) a (.ref C) X.env.locals
structure Own (X:Cx):Prop where
 ex:X.ex=[]
 stk:X.stack=X.env::X.outer
 fr:X.env.frame=some X.env.locals
theorem SX.pass (o:Own X) (B:Bs) (x:Str):PassesOwn (model X.prog X.w) X.A X.env (SX X B x):=by
 rintro _ s ⟨a,C,pins,σ,H,O,Y,rfl,I,E,hC,t⟩;have fr:X.A.frames=some (X.env::X.outer):=by rw[I.ok.frames,o.stk]
 have st:s.heap.FunFrames X.base (X.env::X.outer):=by rw[<-o.stk];exact I.stack
 refine y7 fr st o.fr (λb q=>I.nowh o.ex q) t λh1 c1 t1=>?_;have I1:=I.chg o.ex (h':=h1) (by rw[o.stk];exact c1);show wpAny _ _ _ _ _ _;rw[o.fr];refine Cr (S:=frs X.stack) (s:={s with heap:=h1}) t1 λh2 c2 t2=>?_;exact⟨a,C,pins,σ,H,O,Y,rfl,I1.chg o.ex c2,E,hC,.inr (.inr t2)⟩
def PZ (X:Cx) (st:List Stmt) (G:Ev->Option Str):Prop:=∀B O Y x pins s σ H,G Y=some x->Inv X pins σ H s->EnvOk X.K B O σ H Y->
 wpAny (model X.prog X.w) X.A (execs st X.env) (λ_ _=>False) (SX X B x) s
def PZ1 (X:Cx) (st:Stmt) (G:Ev->Option Str):Prop:=∀B O Y x pins s σ H,G Y=some x->Inv X pins σ H s->EnvOk X.K B O σ H Y->
 wpAny (model X.prog X.w) X.A (exec st X.env) (λ_ _=>False) (SX X B x) s
def noZ:Ev->Option Str:=λ_=>none
def sqZ (F:Ev->Option Out) (G:Ev->Option Str):Ev->Option Str:=λY=>(F Y).bind λo=>match o with|.nx Y'=>G Y'|_=>none
section
variable {X:Cx} {st:Stmt} {rest:List Stmt} {F:Ev->Option Out} {G G':Ev->Option Str}
theorem DG:PZ X rest noZ:=λ_ _ _ _ _ _ _ _ q=>by cases q
theorem eG:PZ1 X st noZ:=λ_ _ _ _ _ _ _ _ q=>by cases q
theorem Js (h:PZ X rest G) (h':PZ X rest G'):PZ X rest (orO G G'):=λB O Y x pins s σ H q I E=>by
 rcases or_some q with q|q
 ·exact h B O Y x pins s σ H q I E
 ·exact h' B O Y x pins s σ H q I E
theorem uS (h:PZ1 X st G):PZ X (st::rest) G:=λB O Y x pins s σ H q I E=>
 wpAny_execs_cons (thn (h B O Y x pins s σ H q I E) λ_ _ z=>False.elim z)
theorem Jt (h:PR X.nox st F) {σ:St} (q:F Y=some (.nx Y')) (I:Inv X pins σ H s) (E:EnvOk X.K B O σ H Y) (k:∀O' σ' H' s',Inv X pins σ' H' s'->EnvOk X.K B O' σ' H' Y'->Q .next s'):wpAny (model X.prog X.w) X.A (exec st X.env) Q E' s:=by
 refine wpAny_mono (h B O Y pins s σ H {nx:=λσ' H'=>∃O',EnvOk X.K B O' σ' H' Y',rt:=λ_ _=>False} (I.wish _) ⟨E,_,q,λσ' H' O' _ E'=>⟨O',E'⟩⟩) (λf s' z=>?_) λ_ _ z=>False.elim z;cases f with
 |next=>
  obtain⟨σ',H',I',O',E'⟩:=z;exact k O' σ' H' s' I'.unwish E'
 |brk=>obtain⟨_,_,_,z⟩:=z;exact False.elim z
 |cont=>obtain⟨_,_,_,z⟩:=z;exact False.elim z
 |ret u=>obtain⟨_,_,_,_,_,z⟩:=z;exact False.elim z
theorem Cs (h:PR X.nox st F) (h':PZ X rest G):PZ X (st::rest) (sqZ F G):=λB O Y x pins s σ H q I E=>by
 obtain⟨o,q1,q2⟩:=bind_some q;cases o with
 |nx Y'=>exact wpAny_execs_cons (Jt h q1 I E λO' σ' H' s' I' E'=>h' B O' Y' x pins s' σ' H' q2 I' E')
 |_=>cases q2
end
abbrev bmV:List Value:=[.type "ValueError",.type "Exception",.type "BaseException",.type "object"]
structure RCls (K:Frag) (mg:Str->Option Value) (base:Heap) (x:Str):Prop where
 ex:∃C,nsIn K mainGlobals x=some (some (.ref C))/\OwnCls x C bmV "ValueError.__new__" mg base
def raZ (x:Str):Ev->Option Str:=λ_=>some x
section
variable {X:Cx} {x:Str}
theorem y8 (o:Own X) (hc:X.calm=true) (c:RCls X.K X.mg X.base x) (gl:Gl X x) (hd:(x==("__debug__":Str))=false):PZ1 X (.Raise (some (.Call (.Name x np) [.Constant (.str m) j mp] [] cpos)) none pos) (raZ x):=by
 intro B O Y y pins s σ H q I E;cases q;obtain⟨C,hC,oc⟩:=c.ex;obtain⟨tl,N,nm,qn,bs,hdct,sn,sub,ab,col,dd,k0,k1,k2,k3,k5,mN,hO,hN,hni,T⟩:=oc.obj;refine wpAny_Raise_call_subT (C:=C) (nm:=nm) (q:=qn) (N:=N) (bs:=bs) (bm:=tl) (hdct:=hdct) (sn:=sn) (sub:=sub) (ab:=ab) (col:=col) (dd:=dd) (k0:=k0) (k1:=k1) (k2:=k2) (k3:=k3) (k5:=k5)
  PySem.F.excBase_ValueError (mN:=mN) (T.hasType PySem.F.excBase_ValueError.hasBase) (I.ok.hd hc) rfl hni (gy I gl oc.bound ⟨rfl,?_⟩ hd)
 have h:=(bi (X:=X.wish (SX X B x)) (pe_str (x:=m) (j:=j) (pos:=mp)) pa_nil) cpos pins s σ H (λvs H1=>vs.length<=sizeLine/\H1=H) (I.wish _) ⟨(show 1<=sizeLine by decide),rfl⟩;refine Calls.evalArgs_plain (wpAny_mono h (λus s2 z=>?_) λ_ _ z=>z);obtain⟨vs,H1,I2,r,hl,rfl⟩:=z;have I2:=I2.unwish;refine⟨rfl,by rw[<-r.length];exact hl,I2.bk _ _ hO,hN.keeps I2.bk,T.keeps I2.bk,λh' e mk=>?_⟩;have I3:Inv X pins σ H1 {s2 with heap:=h'}:=I2.kept (t':=s2.toks) mk.keeps;obtain⟨t,he,_,_⟩:=mk.there;exact⟨e,C,pins,σ,H1,O,Y,rfl,I3,E,hC,.inl ⟨_,_,he,⟨rfl,rfl⟩,rfl,I2.nowh o.ex mk.new,rfl⟩⟩
end
def EX (X:Cx) (B:Bs) (O:Addr->Bool) (Y:Ev) (pins:List (Addr×Obj)) (σ:St) (H0:Hp) (x:Str) (e:Value) (s:Shared):Prop:=
 ∃a C H,e=.ref a/\Same H0 H/\Inv X pins σ H s/\EnvOk X.K B O σ H Y/\nsIn X.K mainGlobals x=some (some (.ref C))/\TrX s.heap (NP X pins H) a (.ref C) .none
theorem EX.sx:EX X B O Y pins σ H0 x e s->SX X B x e s:=
 λ⟨a,C,H,h1,_,h2,h3,h4,h5⟩=>⟨a,C,pins,σ,H,O,Y,h1,h2,h3,h4,.inr (.inl h5)⟩
def PZE (X:Cx) (e:Expr) (G:Ev->Option Str):Prop:=∀B O Y x pins s σ H,G Y=some x->Inv X pins σ H s->EnvOk X.K B O σ H Y->
 wpAny (model X.prog X.w) X.A (eval e X.env) (λ_ _=>False) (EX X B O Y pins σ H x) s
def spX (K:Frag) (g:List D->Option Str):Sp:=λvs H _ E=>∃O ds x,(∀b,O b=true->Hid (H b))/\IsL K (msk O H) ds vs/\g ds=some x/\∀C H',nsIn K mainGlobals x=some (some (.ref C))->Same H H'->E (.ref C) none H'
structure Dx (P:Program) (w:World) (K:Frag) (mg:Str->Option Value) (base:Heap) (f:Str) (k:Nat) (g:List D->Option Str):Prop where
 ex:∃ (a:Addr) (fd:FuncData) (ps:List Str),mg f=some (.ref a)/\PySem.W.keepIn K (.ref a)=true/\Binds K fd ps []/\FnOk P w K mg base (CXE P w) k a fd ps (spX K g)
structure Mx (P:Program) (w:World) (K:Frag) (mg:Str->Option Value) (base:Heap) (C:Str) (k:Nat) (g:List D->Option Str):Prop where
 ex:∃ (Ca fa:Addr) (fd:FuncData) (ps:List Str) (g':List D->Option Str),mg C=some (.ref Ca)/\Mk K Ca fa/\Binds K fd ps []/\FnOk P w K mg base (CXE P w) k fa fd ps (spX K g')/\∀ds x,g ds=some x->∀y,g' (.adr y::ds)=some x
def clZ (xs:Vv->Option (List D)) (g:List D->Option Str):Ev->Option Str:=λY=>(xs (vw Y)).bind g
section
variable {X:Cx} {x f:Str} {e:Expr} {es:List Expr} {p pos:Pos} {k:Nat} {g:List D->Option Str} {fa:Vv->Option (List D)}
theorem y9 (o:Own X) (D:Dx X.prog X.w X.K X.mg X.base f k g) (hr:Room k X.A) (gl:Gl X f) (ha:∀E,PX (X.wish E) (e::es) fa) (hdb:(f==("__debug__":Str))=false)
  (he:starEach (e::es) X.env=(false,eval e X.env)::starEach es X.env) (hpl:(backTo pos (starEach es X.env)).any (·.1)=false):PZE X (.Call (.Name f p) (e::es) [] pos) (clZ fa g):=by
 intro B O Y x pins s σ H q I E
 obtain⟨ds,q1,q2⟩:=bind_some q
 obtain⟨a,fd,ps,hm,hk,hb,F⟩:=D.ex
 refine wpAny_Call_Name_kw (gy I gl hm ?_ hdb)
 refine PySem.W.callWith_K (h₀:=X.base) I.ok.mod.kin hk (thn ((ha (EX X B O Y pins σ H x)) noO (vw Y) pos pins s σ H (λvs H1=>Same H H1/\IsL X.K H1 ds vs) (I.wish _) ⟨E.view,ds,q1,λvs H1 s1 il=>⟨s1,by rw[fm]at il;exact il⟩⟩) λus s1 ⟨vs,H1,I1,r,s2,il⟩=>⟨I1.unwish.kIn,?_⟩) he hpl
 have I1:=I1.unwish
 have hsp:spX X.K g vs H1 (λ_ _=>False) (λcl _ H'=>Same H1 H'/\∃C,cl=.ref C/\nsIn X.K mainGlobals x=some (some (.ref C))):=⟨noO,ds,x,λ_ z=>(nomatch z),by rw[fm];exact il,q2,λC H' hC s=>⟨s,C,rfl,hC⟩⟩
 have hl:us.length=ps.length:=by rw[<-r.length];exact F.len _ _ _ _ hsp
 have hb':=hb s1 us I1.kIn (by rw[List.append_nil];exact hl)
 rw[List.append_nil]at hb'
 refine wpAny_call (codeAny_mono (F.run X.A X.stack s1 H1 ⟨us,[]⟩ us vs _ _ hr I1.env0 hb' r hsp) λr s' hq=>?_)
 cases r with
 |error ev=>
  obtain⟨a,C,H',rfl,I2,t,s3,C',e1,hC⟩:=I1.raised (P:=X.prog) (w:=X.w) (e:=ev) (s':=s') (E:=λcl _ H'=>Same H1 H'/\∃C,cl=.ref C/\nsIn X.K mainGlobals x=some (some (.ref C))) o.ex hq;cases e1;exact⟨a,C,H',rfl,s2.trans s3,I2,E.grow (s2.trans s3),hC,t⟩
 |ok fl=>
  cases fl with
  |ret u=>obtain⟨_,_,_,_,_,_,_,z⟩:=hq;exact False.elim z
  |next=>exact False.elim hq
  |brk=>exact False.elim hq
  |cont=>exact False.elim hq
end
section
variable {X:Cx} {e c tg iter:Expr} {st:Stmt} {pos:Pos} {G G':Ev->Option Str} {a b body:List Stmt}
theorem za (h:PZ1 X st G) (h':PZ1 X st G'):PZ1 X st (orO G G'):=λB O Y x pins s σ H q I E=>by
 rcases or_some q with q|q
 ·exact h B O Y x pins s σ H q I E
 ·exact h' B O Y x pins s σ H q I E
def tZ (K:Frag) (B:Bs) (G:Ev->Option Str) (x:Str):TE:=λσ H _=>∃O Y,EnvOk K B O σ H Y/\G Y=some x
theorem PZE.pe (h:PZE X e G) (B:Bs) (x:Str):PE (X.wish (SX X B x)) e (tZ X.K B G x):=λpins s σ H Q I ⟨O,Y,E,q⟩=>
 wpAny_mono (h B O Y x pins s σ H q I.unwish E) (λ_ _ z=>False.elim z) λ_ _ z=>z.sx
def nE:Ends:={nx:=λ_ _=>False,rt:=λ_ _=>False}
theorem zb:SP X pins nE f s->False:=λz=>by
 cases f with
 |next=>obtain⟨_,_,_,z⟩:=z;exact z
 |brk=>obtain⟨_,_,_,z⟩:=z;exact z
 |cont=>obtain⟨_,_,_,z⟩:=z;exact z
 |ret u=>obtain⟨_,_,_,_,_,z⟩:=z;exact z
theorem mh {t:Bs->Str->TS} (h:∀B x,PS (X.wish (SX X B x)) st (t B x)) (k:∀B O Y x σ H,G Y=some x->EnvOk X.K B O σ H Y->t B x nE σ H):PZ1 X st G:=λB O Y x pins s σ H q I E=>
 thn (h B x pins s σ H nE (I.wish _) (k B O Y x σ H q E)) λ_ _ z=>zb z
theorem Ct (h:PZE X e G) (hs:swapsWith e none pos.line X.env=pure false):PZ1 X (.Expr e pos) G:=
 mh (λB x=>dF (h.pe B x) hs) λB O Y x σ H q E=>⟨O,Y,E,q⟩
theorem FT (h:PZE X e G):PZ1 X (.Return (some e) pos) G:=
 mh (λB x=>rS (h.pe B x)) λB O Y x σ H q E=>⟨O,Y,E,q⟩
theorem FU {i:Nat} (h:PZE X e G) (hN:X.N.Nodup) (hi:X.N[i]?=some y) (hx:Loc X.env.scope y) (hs:swapsWith e (some (.Name y pos')) pos.line X.env=pure false) (hf:X.fn y=true\/X.env.scope.names.lookup y=some .local):PZ1 X (.Assign [.Name y pos'] e pos) G:=
 mh (λB x=>wE (X:=X.wish (SX X B x)) hN hi hx (h.pe B x) hs hf) λB O Y x σ H q E=>⟨O,Y,E,q⟩
def ifZ (fc:Vv->Option Bool) (G G':Ev->Option Str):Ev->Option Str:=λY=>(fc (vw Y)).bind λc=>if c=true then G Y else G' Y
theorem PZ.ps (h:PZ X a G) (B:Bs) (x:Str):PSs (X.wish (SX X B x)) a (λ_ σ H=>∃O Y,EnvOk X.K B O σ H Y/\G Y=some x):=λpins s σ H D I ⟨O,Y,E,q⟩=>
 thn (h B O Y x pins s σ H q I.unwish E) λ_ _ z=>False.elim z
theorem Ju (hc:∀E,PQ (X.wish E) c fc) (ha:PZ X a G) (hb:PZ X b G'):PZ1 X (.If c a b pos) (ifZ fc G G'):=
 mh (t:=λB x En σ H=>∃O Y,EnvOk X.K B O σ H Y/\ifZ fc G G' Y=some x) (λB x pins s σ H D I ⟨O,Y,E,q⟩=>by
  obtain⟨d,q1,q2⟩:=bind_some q;refine wA (hc _ noO (vw Y)) (ha.ps B x) (hb.ps B x) pins s σ H D I ⟨E.view,d,q1,λH' s'=>?_⟩;cases d with
  |true=>rw[if_pos rfl]at q2;exact A4 ⟨O,Y,E.grow s',q2⟩
  |false=>rw[if_neg Bool.false_ne_true]at q2;exact A3 ⟨O,Y,E.grow s',q2⟩) λB O Y x σ H q E=>⟨O,Y,E,q⟩
end
def eW (N:D->Ev->Option Out) (Z:D->Ev->Option Str):List D->Ev->Option Str
 |[],_=>none
 |d::ds,Y=>match Z d Y with
  |some x=>some x
  |none=>(N d Y).bind λo=>match o with
   |.nx Y'=>eW N Z ds Y'
   |.ct Y'=>eW N Z ds Y'
   |_=>none
def ka (g:D->Ev->Option Ev) (G:Ev->Option Str):D->Ev->Option Str:=λd Y=>(g d Y).bind G
def foZ (fi:Vv->Option (List D)) (g:D->Ev->Option Ev) (F:Ev->Option Out) (G:Ev->Option Str):Ev->Option Str:=λY=>(fi (shv Y)).bind λds=>eW (eP g F) (ka g G) ds Y
def fzZ (fi:Vv->Option (List D)) (g:D->Ev->Option Ev) (F:Ev->Option Out) (G:Ev->Option Str):Ev->Option Str:=λY=>(fi (vw Y)).bind λds=>eW (eP g F) (ka g G) ds (io Y)
section
variable {X:Cx} {tg iter:Expr} {pos:Pos} {body:List Stmt} {fi:Vv->Option (List D)} {g:D->Ev->Option Ev} {F:Ev->Option Out} {G:Ev->Option Str}
def tbZ (K:Frag) (B:Bs) (F:Ev->Option Out) (G:Ev->Option Str) (x:Str):TS:=λEn σ H=>∃z:(Addr->Bool)×Ev,tS K B z.1 z.2 (F z.2) En σ H\/(EnvOk K B z.1 σ H z.2/\G z.2=some x)
theorem qV {K} (E:EnvOk K B O σ H Y) (V:VE K O σ H Yv) (q:(o.bind λds=>eW (eP g F) (ka g G) ds Y)=some x):
  D9 (tJ K O Yv o) (λv σ H Q=>∃z:(Addr->Bool)×Ev×D,tGE K B z.1 z.2.1 z.2.2 (g z.2.2 z.2.1) v σ H Q) (tbZ K B F G x) nE σ H:=by
 obtain⟨ds,q1,q⟩:=bind_some q
 refine⟨V,ds,q1,λJ H1 s1 it=>⟨λi m σ' H'=>i<=ds.length/\m=ds.length-i/\∃O' Y',Same (msk O H1) (msk O' H')/\EnvOk K B O' σ' H' Y'/\eW (eP g F) (ka g G) (ds.drop i) Y'=some x,
  ⟨ds.length,Nat.zero_le _,by simp,O,Y,Same.refl _,E.grow s1,by simpa using q⟩,?_⟩⟩
 rintro i m σ2 H2 ⟨hi,rfl,O2,Y2,s2,E2,e2⟩
 have hit:=it i H2 O2 s2 E2.dom
 by_cases hlt:i<ds.length
 ·refine .inr ?_;have hd:ds[i]?=some ds[i]:=getElem?_eq_getElem hlt;obtain⟨go,yl⟩:=hit.1 _ hd;refine⟨go,λσ' H'=>i+1<=ds.length/\∃O' Y',Same (msk O H1) (msk O' H')/\EnvOk K B O' σ' H' Y'/\eW (eP g F) (ka g G) (ds.drop (i+1)) Y'=some x,λσ' H' ⟨a,b⟩=>⟨ds.length-(i+1),by omega,a,rfl,b⟩,λv H3 hy=>?_⟩;obtain⟨s3,ix⟩:=yl v H3 hy;rw[List.drop_eq_getElem_cons hlt]at e2;have s4:Same (msk O H1) (msk O2 H3):=s2.trans s3.msk;cases g3:g ds[i] Y2 with
  |none=>
   unfold eW ka eP at e2;rw[g3]at e2;cases e2
  |some Y3=>
   refine⟨⟨O2,Y2,ds[i]⟩,E2.grow s3,ix,Y3,g3,λσ4 E4=>⟨⟨O2,Y3⟩,?_⟩⟩;cases hG:G Y3 with
   |some y=>
    have e3:eW (eP g F) (ka g G) (ds[i]::ds.drop (i+1)) Y2=some y:=by
     have z:ka g G ds[i] Y2=some y:=by unfold ka;rw[g3];exact hG
     unfold eW;rw[z]
    rw[e3]at e2;cases e2;exact .inr ⟨E4,by first|exact hG|rfl⟩
   |none=>
    have z:ka g G ds[i] Y2=none:=by unfold ka;rw[g3];exact hG
    unfold eW at e2;rw[z]at e2;obtain⟨o1,e3,e4⟩:=bind_some (show(eP g F ds[i] Y2).bind _=some x from e2);have f3:F Y3=some o1:=by
     unfold eP at e3;rw[g3]at e3;exact e3
    refine .inl ⟨E4,o1,f3,?_⟩;cases o1 with
    |nx Y5=>exactλσ5 H5 O5 s5 E5=>⟨hlt,O5,Y5,s4.trans s5,E5,e4⟩
    |ct Y5=>exactλσ5 H5 O5 s5 E5=>⟨hlt,O5,Y5,s4.trans s5,E5,e4⟩
    |bk Y5=>cases e4
    |rt d=>cases e4
 ·have hie:i=ds.length:=by omega
  subst hie;rw[List.drop_of_length_le (le_refl _)]at e2;cases e2
theorem DH (hb:PRs X.nox body F) (hz:PZ X body G) (B:Bs) (x:Str):PSs (X.wish (SX X B x)) body (tbZ X.K B F G x):=λpins s σ H D I ⟨z,h⟩=>by
 rcases h with h|⟨E,q⟩
 ·exact PSs.nox (X:=X.wish (SX X B x)) (hb B z.1 z.2) pins s σ H D I h
 ·exact thn (hz B z.1 z.2 x pins s σ H q I.unwish E) λ_ _ z=>False.elim z
theorem FV (o:Own X) (hc:X.calm=true) (hi:∀E,PJ (X.wish E) tg iter fi) (hg:∀E,PGE (X.wish E) tg g) (hb:PRs X.nox body F) (hz:PZ X body G)
  (hs:∀x,foldedSetIterable iter X.env x=pure x):PZ1 X (.For tg iter body [] pos) (foZ fi g F G):=λB O Y x pins s σ H q I E=>
 thn (kP (X:=X.wish (SX X B x)) (SX.pass o B x) hc (hi _ O (shv Y)) (PG.ex λz:(Addr->Bool)×Ev×D=>hg _ B z.1 z.2.1 z.2.2) (DH hb hz B x) hs pins s σ H nE (I.wish _) (qV E E.viewS q)) λ_ _ z=>zb z
theorem Cu (o:Own X) (hc:X.calm=true) (hi:∀E,PJ (X.wish E) tg iter fi) (hg:∀E,PGE (X.wish E) tg g) (hb:PRs X.nox body F) (hz:PZ X body G)
  (hs:∀x,foldedSetIterable iter X.env x=pure x):PZ1 X (.For tg iter body [] pos) (fzZ fi g F G):=λB O Y x pins s σ H q I E=>
 thn (kP (X:=X.wish (SX X B x)) (SX.pass o B x) hc (hi _ B.O (vw Y)) (PG.ex λz:(Addr->Bool)×Ev×D=>hg _ B z.1 z.2.1 z.2.2) (DH hb hz B x) hs pins s σ H nE (I.wish _) (qV E.frozen.1 E.viewF q)) λ_ _ z=>zb z
end
structure Zn where
 cl:Str->Bool
 df:Str->Option (Nat×(List D->Option Str))
 mz:Str->Option (Nat×(List D->Option Str))
structure ZOk (P:Program) (w:World) (K:Frag) (mg:Str->Option Value) (base:Heap) (Z:Zn):Prop where
 cl:∀x,Z.cl x=true->RCls K mg base x
 df:∀f k g,Z.df f=some (k,g)->Dx P w K mg base f k g
 mz:∀f k g,Z.mz f=some (k,g)->Mx P w K mg base f k g
def zcF (S:Sn) (Z:Zn) (f:Str) (xs:Vv->Option (List D)):Ev->Option Str:=match Z.df f with
 |some (k,g)=>if k<=S.k then clZ xs g else noZ
 |none=>noZ
def zcA (n:Nat) (S:Sn) (Z:Zn):Expr->Ev->Option Str
 |.Call f as ks _=>(match f,as,ks with
  |.Name f _,a::as,[]=>if glS S f&&(a::as).all aG then zcF S Z f (rx n S (a::as))else noZ
  |_,_,_=>noZ)
 |_=>noZ
def iV (n:Nat) (S:Sn) (Z:Zn) (e:Expr):Ev->Option Str:=match e with
 |.Compare e ops bs _=>(match ops,bs with
  |[.IsNot],[b]=>if uJ b=some .none then zcA n S Z e else noZ
  |_,_=>noZ)
 |.Subscript e _ _=>zcA n S Z e
 |e=>zcA n S Z e
def Jv:Expr->Bool
 |.Constant c _ _=>(match c with
  |.str _=>true
  |_=>false)
 |_=>false
theorem wg (h:Jv e=true):∃s j p,e=.Constant (.str s) j p:=by
 cases e with
 |Constant c j p=>cases c<;>first|exact⟨_,_,_,rfl⟩|cases h
 |_=>cases h
def rsC (a b:Option Expr):Option Str:=match a,b with
 |some a,none=>(match a with
  |.Call f as ks _=>(match as,ks with
   |[a],[]=>if Jv a then bL f else none
   |_,_=>none)
  |_=>none)
 |_,_=>none
theorem zd (h:rsC a b=some x):∃p s j q r,a=some (.Call (.Name x p) [.Constant (.str s) j q] [] r)/\b=none:=by
 unfold rsC at h;split at h
 ·split at h
  ·split at h
   ·split at h
    ·rename_i hs;obtain⟨s,j,q,rfl⟩:=wg hs;obtain⟨p,rfl⟩:=aJ h;exact⟨_,_,_,_,_,rfl,rfl⟩
    ·cases h
   ·cases h
  ·cases h
 ·cases h
def zq:Stmt->Bool
 |.Assign _ _ _=>true
 |.For _ _ _ _ _=>true
 |.While _ _ _ _=>true
 |.Return (some (.Name _ _)) _=>true
 |.Return (some (.ListComp _ _ _ _)) _=>true
 |_=>false
def FW:Expr->Option Expr
 |.UnaryOp op e _=>(match op,e with
  |.Not,.Call f as ks p=>some (.Call f as ks p)
  |_,_=>none)
 |_=>none
def ifY (z:Ev->Option Str) (c:Vv->Option Bool) (a b:Ev->Option Str):Ev->Option Str:=orO z (ifZ c a b)
mutual
noncomputable def zx:Nat->Sn->Zn->Stmt->Ev->Option Str
 |0=>λ_ _ _=>noZ
 |n+1=>λS Z st=>match st with
  |.Raise a b _=>(match rsC a b with|some x=>if glS S x&&Z.cl x then raZ x else noZ|none=>noZ)
  |.If c a b _=>(match FW c with|some e=>ifY (iV n S Z e) (rq n S c) (zxs n S Z a) (zxs n S Z b)|none=>ifZ (rq n S c) (zxs n S Z a) (zxs n S Z b))
  |.For tg iter body els _=>if els.isEmpty&&gP iter then orO (foZ (rj n S tg iter) (tgE S n tg) (exs n S body) (zxs n S Z body)) (fzZ (rj n S tg iter) (tgE S n tg) (exs n S body) (zxs n S Z body))else noZ
  |.Expr e _=>iV n S Z e
  |.Return v _=>(match v with|some e=>iV n S Z e|none=>noZ)
  |.Assign ts e _=>(match ts with
   |[t]=>(match(bL t).bind (n9 S)with|some _=>iV n S Z e|none=>noZ)
   |_=>noZ)
  |_=>noZ
noncomputable def zxs:Nat->Sn->Zn->List Stmt->Ev->Option Str
 |0=>λ_ _ _=>noZ
 |n+1=>λS Z st=>match st with
  |[]=>noZ
  |s::r=>if r.all zq then zx n S Z s else orO (zx n S Z s) (sqZ (ex n S s) (zxs n S Z r))
end
section
variable {X:Cx} {S:Sn} {Z:Zn}
theorem SnOk.wish (o:SnOk X.nox S) (E:Value->Shared->Prop):SnOk (X.wish E) S:=⟨o.g,o.N,o.nd,o.calm,o.room,o.loc,o.cel,o.fre,o.glo⟩
theorem iw:PZE X e noZ:=λ_ _ _ _ _ _ _ _ q=>by cases q
theorem Jw (w:Own X) (o:TnOk X.nox S) (z:ZOk X.prog X.w X.K X.mg X.base Z) (n:Nat):PZE X (.Call (.Name f p) (a::as) [] q) (if glS S f&&(a::as).all aG then zcF S Z f (rx n S (a::as))else noZ):=by
 split
 ·rename_i h;rw[and_eq_true]at h;obtain⟨ok,gl⟩:=bn o.s h.1;have gl:Gl X f:=gl;obtain⟨n1,_,_⟩:=bJ ok;have ha:=h.2;rw[List.all_cons,and_eq_true]at ha;unfold zcF;split
  ·rename_i k g hf;split
   ·rename_i hk;exact y9 w (z.df f k g hf) (o.s.room.mono hk) gl (λE=>(sound n).rx _ S (o.s.wish E) _) n1 (star1 ha.1) (uE ha.2)
   ·exact iw
  ·exact iw
 ·exact iw
theorem Cv (h:PZE X e G):PZE X (.Subscript e i pos) G:=λB O Y x pins s σ H q I E=>Subscript_ (wpAny_mono (h B O Y x pins s σ H q I E) (λ_ _ z=>z.elim) λ_ _ z=>z)
theorem ze (w:Own X) (o:TnOk X.nox S) (z:ZOk X.prog X.w X.K X.mg X.base Z) (n:Nat) (e:Expr):PZE X e (zcA n S Z e):=by
 unfold zcA;split
 ·split
  ·exact Jw w o z n
  ·exact iw
 ·exact iw
theorem s_zcall (w:Own X) (o:TnOk X.nox S) (z:ZOk X.prog X.w X.K X.mg X.base Z) (n:Nat) (e:Expr):PZE X e (iV n S Z e):=by
 unfold iV;split
 ·split
  ·split
   ·rename_i hb;obtain⟨_,_,rfl⟩:=ip hb;exactλB O Y x pins s σ H q I E=>wpAny_Compare1 (wpAny_mono (ze w o z n _ B O Y x pins s σ H q I E) (λ_ _ z=>z.elim) λ_ _ z=>z) rfl
   ·exact iw
  ·exact iw
 ·exact Cv (ze w o z n _)
 ·exact ze w o z n _
theorem fB (h:bK e=true):iV n S Z e=noZ:=by
 cases e<;>first|rfl|cases h
theorem FX (h:PZE X e G) (hp:sU e=true):PZ1 X (.If (.UnaryOp .Not e p) a b pos) G:=
 mh (λB x=>wA (t:=λ_ _ _=>False) (u:=λ_ _ _=>False) (wy (D1 (h.pe B x) (plainT_ok hp))) (λ_ _ _ _ _ _ z=>z.elim) (λ_ _ _ _ _ _ z=>z.elim)) λB O Y x σ H q E=>⟨O,Y,E,q⟩
theorem LX (w:Own X) (o:TnOk X.nox S) (z:ZOk X.prog X.w X.K X.mg X.base Z):∀n,(∀st,PZ1 X st (zx n S Z st))/\∀st,PZ X st (zxs n S Z st):=by
 intro n;induction n with
 |zero=>exact⟨λst=>eG,λst=>DG⟩
 |succ n ih=>
  refine⟨λst=>?_,λst=>?_⟩
  ·unfold zx;split
   ·rename_i a b p;split
    ·rename_i x h;split
     ·rename_i c;rw[and_eq_true]at c;obtain⟨ok,gl⟩:=bn o.s c.1;obtain⟨_,_,_,_,_,rfl,rfl⟩:=zd h;exact y8 w o.s.calm (z.cl x c.2) gl (bJ ok).1
     ·exact eG
    ·exact eG
   ·rename_i c a b p;have hI:PZ1 X (.If c a b p) (ifZ (rq n S c) (zxs n S Z a) (zxs n S Z b)):=Ju (λE=>(sound n).rq _ S (o.s.wish E) _) (ih.2 _) (ih.2 _);cases hc:FW c with
    |none=>exact hI
    |some e=>
     refine za ?_ hI;unfold FW at hc;split at hc
     ·split at hc
      ·cases hc;exact FX (s_zcall w o z n _) rfl
      ·cases hc
     ·cases hc
   ·rename_i tg iter body els p;split
    ·rename_i h;rw[and_eq_true]at h;cases els with
     |nil=>
      exact za (FV w o.s.calm (λE=>(sound n).rj _ S (o.s.wish E) tg iter) (λE=>(qK (o.s.wish E) o.fn n).1 _) ((qN n).2 _ S o body) (ih.2 body) (cq h.2))
       (Cu w o.s.calm (λE=>(sound n).rj _ S (o.s.wish E) tg iter) (λE=>(qK (o.s.wish E) o.fn n).1 _) ((qN n).2 _ S o body) (ih.2 body) (cq h.2))
     |cons _ _=>cases h.1
    ·exact eG
   ·rename_i e p;cases hc:bK e with
    |true=>rw[fB hc];exact eG
    |false=>exact Ct (s_zcall w o z n e) (swaps_no hc _ _ _)
   ·split
    ·exact FT (s_zcall w o z n _)
    ·exact eG
   ·rename_i ts e q;split
    ·split
     ·rename_i i hi;obtain⟨y,h1,hi⟩:=bind_some hi;obtain⟨p,rfl⟩:=aJ h1;obtain⟨ok,lc,hN⟩:=iq o hi;cases hc:bK e with
      |true=>rw[fB hc];exact eG
      |false=>exact FU (s_zcall w o z n e) (by have:=o.s.N;rw[show X.N=S.N from this];exact o.s.nd) hN lc (swaps_no hc _ _ _) (.inl (o.fn y))
     ·exact eG
    ·exact eG
   ·exact eG
  ·unfold zxs;split
   ·exact DG
   ·split
    ·exact uS (ih.1 _)
    ·exact Js (uS (ih.1 _)) (Cs ((qN n).1 _ S o _) (ih.2 _))
end
def iW (n m:Nat) (G:Ev->Option Str) (ds:List D):Option Str:=if ds.length=n then G (aq m ds)else none
section
variable {P:Program} {w:World} {K:Frag} {mg:Str->Option Value} {base:Heap}
theorem LY {st} (Fn:Fun K x qual st f fd) (S:FnScope N ps (aj st)) (hb:∀ (cdv:Value) (A:Around) (outer:List Env) (s:Shared) (H:Hp) (E:XK),Room k (A.deeper (envOfC qual (aj st) s.heap.objs.size f cdv))->PZ (ic (CXE P w) P w K mg base N qual (aj st) f cdv A outer s H E) (aK st) G):
  FnOk P w K mg base (CXE P w) (k+1) f fd ps (spX K (iW ps.length N.length G)):=by
 obtain⟨oc,od,kV,doc,pm,an,cdv,ct,osl,rfl,lk,hcd⟩:=Fn.ex
 refine Di lk hcd S (λvs H Q E ⟨O,ds,x,_,il,e,_⟩=>?_) λA outer s H vs Q E hr ⟨O,ds,x,hO,il,e,kk⟩=>?_
 ·rw[<-il.len];unfold iW at e;split at e
  ·assumption
  ·cases e
 ·have q:G (aq N.length ds)=some x:=by
   unfold iW at e;split at e
   ·exact e
   ·cases e
  refine⟨λEn σ H'=>σ=fJ N vs/\H'=H,λpins s1 σ H' D I ⟨e1,e2⟩=>?_,rfl,rfl⟩;subst e1;subst e2;refine wpAny_mono (hb cdv A outer s H' E hr ⟨H',O⟩ O (aq N.length ds) x pins s1 _ _ q I (lE hO il)) (λ_ _ z=>False.elim z) λev s2 z=>?_;obtain⟨a,C,pins',σ',H2,O',Y',rfl,I',E',hC,t⟩:=z;exact LW I' (t.mono λb n=>⟨n.1,n.2.1⟩) (kk C H2 hC E'.same)
theorem zg:Own (ic CX P w K mg base N qual scope f cd A outer s H E):=⟨rfl,rfl,rfl⟩
def dfz (n k:Nat) (N ps:List Str) (st:Stmt) (G:Gb) (Z:Zn):List D->Option Str:=iW ps.length N.length (zxs n (qP N st k G) Z (aK st))
theorem Jx (g:GbOk P w K mg base G) (z:ZOk P w K mg base Z) (KX:K.In h) (hN:h.Ns mainGlobals mg) {st} (n k:Nat) (S:FnScope N ps (aj st)) (b:cx x st ps) (t:bo K x st):Dx P w K mg base x (k+1) (dfz n k N ps st G Z):=by
 obtain⟨f,oc,od,an,osl,kV,doc,pm,cdv,ct,h1,h2,h3,h4⟩:=t;have Fn:=kW (st:=st) h2 h3 h4;refine⟨f,_,ps,PySem.W.mg_of KX hN h1,h4,Fn.binds λkV doc pm an cdv ct us hl=>b x kV doc pm an cdv ct us hl,LY Fn S λcdv A outer s H E hr=>?_⟩;exact(LX (X:=ic (CXE P w) P w K mg base N _ (aj st) f cdv A outer s H E) zg (qQ g S cdv A outer s H E hr) z n).2 _
end
section
variable {prog:Program} {w:World} {A:Around} {E:Value->Shared->Prop} {h:Heap} {g:Array GenState} {d:Drawn} {t:Nat} {os:OsState} {K:Frag} {a C:Addr} {oe:Obj}
structure XCls (K:Frag) (C:Addr):Prop where
 ga:findIn K (.ref C) "__getattribute__"=some (some (.builtin "BaseException.__getattribute__"))
 gt:findIn K (.ref C) "__getattr__"=some none
 ca:findIn K (.ref C) "__class__"=some (some (.builtin "object.__class__"))
 sb:PySem.W.subIn K (.ref C) (.type "BaseException")=some true
 mo:PySem.W.mroIn K C (.type "object")=some true
 cl:(PySem.W.clsIn K C).isSome=true
theorem zh (X:K.In h) (I:PySem.W.InstAt h a oe C none) (c:XCls K C) (hq:Q (.done (.ret (.ref C))) ⟨h,g,d,t,os⟩):
  wpAny (model prog w) A (Builtin.«object.__getattribute__» ⟨[.ref a,.str "__class__" tk],[]⟩) Q E ⟨h,g,d,t,os⟩:=by
 have L0:=I.type (M:=model prog w)
 have L1:=PySem.W.looks_findIn (M:=model prog w) X c.ca
 have hT5:(⟨h,g,d,t,os⟩:Shared).TypeIs (.builtin "object.__class__") "getset_descriptor":=PySem.F.typeOf_object_class
 have f5:=PySem.F.typeOf_object_class
 have f6:=PySem.F.slot_gs_get.lookup
 have f7:=PySem.F.slot_gs_set.lookup
 repeat (any_goals (first|assumption|with_reducible refine L0.at ?_|with_reducible refine L1.at ?_|wp_step))
 refine PySem.W.class_get X I c.mo ?_
 repeat (any_goals (first|assumption|wp_step))
theorem zi (X:K.In h) (I:PySem.W.InstAt h a oe C none) (c:XCls K C) (hq:Q () ⟨h,g,d,t,os⟩):wpAny (model prog w) A (checkBuiltinCall "BaseException.__getattribute__" ⟨[.ref a,nameV],[]⟩) Q E ⟨h,g,d,t,os⟩:=by
 have kb:builtinKind "BaseException.__getattribute__"=some .slot:=by decide+kernel
 have ks:splitId "BaseException.__getattribute__"=some ("BaseException","__getattribute__"):=by decide+kernel
 have L0:=I.type (M:=model prog w);have L1:=PySem.W.looks_subIn (M:=model prog w) X c.sb;have ha:=PySem.F.args_bexc_ga (.ref a) nameV;simp only[checkBuiltinCall,kb,ks];refine wpAny_bind ?_
 ·unfold isInstance;repeat (first|with_reducible refine L0.at ?_|with_reducible refine L1.at ?_|wp_step)
  exact hq
theorem Jy (X:K.In h) (I:PySem.W.InstAt h a oe C none) (c:XCls K C) (hq:Q (.ref C) ⟨h,g,d,t,os⟩):wpAny (model prog w) A (getAttrBy (.ref a) (.str "__class__" tk) false) Q E ⟨h,g,d,t,os⟩:=by
 have L0:=I.type (M:=model prog w);have L1:=PySem.W.looks_findIn (M:=model prog w) X c.ga;have L2:=PySem.W.looks_findIn (M:=model prog w) X c.gt;have f3:=PySem.F.attr_ValueError.ga.bind (.ref a);have b0:(false&&onTheHeap (Value.builtin "BaseException.__getattribute__"))=false:=rfl;have b2:(Value.builtin "BaseException.__getattribute__"==Value.builtin "object.__getattribute__")=false:=by decide+kernel
 have b1:(onTheHeap (Value.ref C)&&Value.builtin "BaseException.__getattribute__"==Value.builtin "object.__getattribute__")=false:=by rw[b2];rfl
 repeat (any_goals (first|assumption|with_reducible refine L0.at ?_|with_reducible refine L1.at ?_|with_reducible refine L2.at ?_|wp_step))
 refine codeAny_call_builtin PySem.F.attr_ValueError.ga.plain PySem.F.entry_bexc_ga (zi X I c (zh X I c ?_));repeat (any_goals (first|assumption|wp_step))
theorem Cw (X:K.In h) (I:PySem.W.InstAt h a oe C none) (c:XCls K C) (hq:Q (some (.ref C)) ⟨h,g,d,t+1,os⟩):wpAny (model prog w) A (getAttr? (.ref a) "__class__") Q E ⟨h,g,d,t,os⟩:=by
 unfold getAttr? getAttrBy?;repeat (any_goals (first|assumption|with_reducible apply Jy X I c|wp_step))
end
theorem qW {K:Frag} {a C:Addr} {oe:Obj} (c:XCls K C):PySem.W.KitX K (.ref a) (.ref C) (λh=>PySem.W.InstAt h a oe C none) where
 ty:=λ_ _ _ I=>I.type
 it:=λ_ _ X _=>by
  obtain⟨cd,hc⟩:=Option.isSome_iff_exists.mp c.cl;unfold PySem.W.clsIn at hc;split at hc
  ·rename_i c' d' cd' sl' ho;intro A' Q' E' s' k q;unfold isType loadHead;exact wpAny_bind (wpAny_loadPart (k _ _ (X _ _ ho)) (wpAny_pure q))
  ·cases hc
 ne:=λh tp dd its n sl X htp=>by
  obtain⟨cd,hc⟩:=Option.isSome_iff_exists.mp c.cl;refine Bool.eq_false_iff.mpr λq=>?_;have e:C=tp:=Value.ref.inj (beq_iff_eq.mp q);subst e;unfold PySem.W.clsIn at hc;split at hc
  ·rename_i c' d' cd' sl' ho;have z:=(X _ _ ho).symm.trans htp;cases z
  ·cases hc
 ca:=λ{prog w A E Q s} X I k=>by
  obtain⟨hh,g,d,t,os⟩:=s;exact Cw X I c k
section
variable {X:Cx} {pins:List (Addr×Obj)} {σ:St} {H:Hp} {s:Shared}
theorem Cy (I:Inv X pins σ H s) (hN:X.N.Nodup) (hi:X.N[i]?=some x) (hk:X.env.scope.names.lookup x=some .local) (h:∀s',Inv X pins (σ.set i none) H s'->Q () s'):wpAny M A (do bindName X.env x .none;unbindBehindTheSuite X.env x pos) Q E s:=by
 obtain⟨m,hn,hl⟩:=id I.loc;have hcls:(X.env.scope.kind==.class||(X.env.scope.kind==.module&&X.env.locals !=X.env.globals))=false:=by rw[I.ok.kind];rfl
 have cne:=I.cne;refine wpAny_nameGoes_keeps hk hn hcls λh' v hn' hs=>?_;have lt:∀b o,X.s₀.heap.get? b=some o->b≠X.env.locals:=λb o e=>Nat.ne_of_lt (lt_of_lt_of_le (Heap.lt_size e) I.ok.above);refine h _ ⟨I.ok,I.os,I.bare,⟨λb o e n hb hx=>?_,λb o e n hb hx=>?_,I.base.free,λb o e hx=>?_,I.base.tups,I.base.frzs,I.base.tbls⟩,⟨_,hn',λj y v' e1 e2 e3=>?_⟩,λy c e=>?_,I.free,I.freeC,λp hp=>?_,λb ob e=>?_,by simpa using I.len⟩
 ·exact(hs.2 b (lt b o e)).trans (I.base.keep b o e n hb hx)
 ·obtain⟨sl,e1⟩:=I.base.slot b o e n hb hx;exact⟨sl,(hs.2 b (lt b o e)).trans e1⟩
 ·obtain⟨o',e1⟩:=I.base.there b o e hx;exact⟨o',(hs.2 b (lt b o e)).trans e1⟩
 ·have hj:j≠i:=by
   rintro rfl;by_cases hlt:j<σ.length
   ·rw[List.getElem?_set_self hlt]at e2;cases e2
   ·rw[List.getElem?_eq_none (by simpa using Nat.le_of_not_lt hlt)]at e2;cases e2
  rw[List.getElem?_set_ne (Ne.symm hj)]at e2;obtain⟨u',r',q⟩:=hl j y v' e1 e2 e3;refine⟨u',r',?_⟩;rcases q with⟨k,e⟩|⟨k,c,e,z⟩
  ·refine .inl ⟨k,?_⟩;have:y≠x:=λe=>hj (kL hN e1 (e▸hi));simp[this,e]
  ·exact .inr ⟨k,c,e,z.sameBut hs (cne y c e)⟩
 ·obtain⟨w',z⟩:=I.cell y c e;exact⟨w',z.sameBut hs (cne y c e)⟩
 ·obtain⟨e,n,ne,nf,d⟩:=I.pin p hp;exact⟨(hs.2 p.1 ne).trans e,n,ne,nf,d⟩
 ·refine(I.hok b ob e).stay (λc w' hc q=>(hs.2 c ?_).trans q) (λ_ q=>q) λ_ _ q=>q;rintro rfl;rcases hc with rfl|hc
  ·rw[I.free]at e;cases e
  ·rw[I.free]at hc;cases hc
end
theorem EnvOk.gone {K:Frag} {B:Bs} {O:Addr->Bool} {σ:St} {H:Hp} {Y:Ev} (E:EnvOk K B O σ H Y) (i:Nat):EnvOk K B O (σ.set i none) H (Y.set i none) where
 same:=E.same
 bdom:=E.bdom
 sub:=E.sub
 lis:=E.lis
 len:=by rw[List.length_set,List.length_set];exact E.len
 fp:=by
  obtain⟨F,h1,h2,h3,h4⟩:=E.fp;refine⟨F,λj s q=>?_,h2,h3,h4⟩;have hj:j≠i:=by
   rintro rfl;by_cases hlt:j<Y.length
   ·rw[List.getElem?_set_self hlt]at q;cases q
   ·rw[List.getElem?_eq_none (by simpa using Nat.le_of_not_lt hlt)]at q;cases q
  rw[List.getElem?_set_ne (Ne.symm hj)]at q;obtain⟨v,e,o⟩:=h1 j s q;exact⟨v,by rw[List.getElem?_set_ne (Ne.symm hj)];exact e,o⟩
def Cx.hand (X:Cx) (a:Addr) (oe:Obj):Cx:={X with A:=X.A.mark (some (.ref a)),calm:=false,pn:=(a,oe)::X.pn,xe:=λ_ _=>False}
section
variable {X:Cx} {pins:List (Addr×Obj)} {σ:St} {H:Hp} {s:Shared} {a:Addr} {oe:Obj}
theorem Inv.hand (I:Inv X pins σ H s) (w:Own X) (n:NP X pins H a) (e:s.heap.get? a=some oe) (hd:∀v,oe.data≠.cell v):Inv (X.hand a oe) pins σ H s:=by
 have ok:=I.ok;refine⟨⟨ok.mod,ok.kind,ok.glob,ok.blt,ok.above,ok.inj,ok.has,ok.cab,(λz=>by cases z),ok.frames,ok.stk,ok.exf,ok.bs,ok.bsz,ok.noex,ok.exfs,ok.funs,ok.frf⟩,I.os,I.bare,I.base,I.loc,I.cell,I.free,I.freeC,λp hp=>?_,I.hok,I.len⟩;rcases mem_append.mp hp with hp|hp
 ·rcases mem_cons.mp hp with rfl|hp
  ·refine⟨e,n.2.1,n.2.2.1,λz=>n.2.2.2.2.2 ?_,hd⟩;rw[w.stk];unfold frs;rw[List.filterMap_cons,w.fr];exact mem_cons_of_mem _ z
  ·exact I.pin p (mem_append_left _ hp)
 ·exact I.pin p (mem_append_right _ hp)
theorem Inv.unhand (ok:X.Ok) (I:Inv (X.hand a oe) pins σ H s):Inv X pins σ H s:=
 ⟨ok,I.os,I.bare,I.base,I.loc,I.cell,I.free,I.freeC,λp hp=>I.pin p ((mem_append.mp hp).elim (λz=>mem_append_left _ (mem_cons_of_mem _ z)) λz=>mem_append_right _ z),I.hok,I.len⟩
end
def PY (X:Cx) (st:List Stmt) (G:Ev->Option Str):Prop:=∀B O Y x pins s σ H,G Y=some x->Inv X pins σ H s->EnvOk X.K B O σ H Y->
 wpAny (model X.prog X.w) X.A (execs st X.env) (λ_ _=>False) (EX X B O Y pins σ H x) s
noncomputable def HS (X:Cx) (i:Nat) (suite:List Stmt) (a:Addr) (oe:Obj) (Hd:Ev->Option Ev):Prop:=∀ (B:Bs) (O:Addr->Bool) (Y Y':Ev) (pins:List (Addr×Obj)) (s:Shared) (σ:St) (H:Hp),Hd Y=some Y'->Inv (X.hand a oe) pins (σ.set i (some (.ref a))) H s->EnvOk X.K B O (σ.set i (some (.ref a))) H (Y.set i (some (.sh,.adr a)))->
 wpAny (model X.prog X.w) (X.A.mark (some (.ref a))) (execs suite X.env) (λf s'=>f=.next/\∃σ' H' O' Y'',Inv (X.hand a oe) pins σ' H' s'/\EnvOk X.K B O' σ' H' Y''/\Y''.set i none=Y'/\Same (msk O H) (msk O' H')) (λ_ _=>False) s
def qX (F:Ev->Option Out) (G:Ev->Option Str) (Hd:Str->Ev->Option Ev):Ev->Option Out:=λY=>match G Y with
 |some x=>(Hd x Y).bind λY'=>some (.nx Y')
 |none=>(F Y).bind λo=>match o with|.nx Y'=>some (.nx Y')|_=>none
noncomputable def HB (X:Cx) (hs:List ExceptHandler) (Hd:Str->Ev->Option Ev):Prop:=∀ (x:Str) (B:Bs) (O:Addr->Bool) (Y Y':Ev) (a C:Addr) (pins:List (Addr×Obj)) (s:Shared) (σ:St) (H:Hp) (Q:Flow->Shared->Prop) (E':Value->Shared->Prop),Hd x Y=some Y'->nsIn X.K mainGlobals x=some (some (.ref C))->
 Inv X pins σ H s->EnvOk X.K B O σ H Y->TrX s.heap (NP X pins H) a (.ref C) .none->(∀σ' H' O' s',Inv X pins σ' H' s'->EnvOk X.K B O' σ' H' Y'->Same (msk O H) (msk O' H')->Q .next s')->
 wpAny (model X.prog X.w) X.A (handleBy (.ref a) X.env hs) Q E' s
def hdC (f:Str->Option Bool) (H1 H2:Str->Ev->Option Ev):Str->Ev->Option Ev:=λx=>match f x with
 |some true=>H1 x
 |some false=>H2 x
 |none=>λ_=>none
theorem FY:HB X [] (λ_ _=>none):=λ_ _ _ _ _ _ _ _ _ _ _ _ _ q=>by cases q
theorem Cz {rest} (w:Own X) (gl:Gl X M) (hm:X.mg M=some (.ref Mc)) (hd:(M==("__debug__":Str))=false) (hN:X.N.Nodup) (hi:X.N[i]?=some n) (hk:X.env.scope.names.lookup n=some .local) (hM:∀x b C,f x=some b->nsIn X.K mainGlobals x=some (some (.ref C))->PySem.W.exmOne X.K (.ref C) (.ref Mc)=some b) (hh:∀x C a oe,f x=some true->nsIn X.K mainGlobals x=some (some (.ref C))->oe.cls=.ref C->oe.dict=none->PySem.W.notCls oe=true->HS X i (b₀::suite) a oe (Hd x)) (hr:HB X rest H2):
   HB X (.ExceptHandler (some (.Name M mp)) (some n) (b₀::suite) hp::rest) (hdC f Hd H2):=by
 intro x B O Y Y' a C pins s σ H Q E' q hC I E t k
 have t0:=t
 obtain⟨oe,vs,T,oT,ts,he,⟨hc,_⟩,hdt,ne,_⟩:=id t
 have nc:∀v,oe.data≠.cell v:=λv z=>by rw[hdt]at z;cases z
 have I3h:=I.hand w ne he nc
 have LT:PySem.W.Looks (model X.prog X.w) s.heap (typeOf (.ref a)) (.ref C):=hc▸(PySem.W.Looks.ld he).andThen .now
 refine wpAny_handleBy_cons (codeAny_handlers_test (gy (X:=X.hand a oe) I3h gl hm ?_ hd)) (by intro q;cases q)
 have q':(match f x with|some true=>Hd x|some false=>H2 x|none=>λ_=>none) Y=some Y':=q
 clear q
 cases hf:f x with
 |none=>rw[hf]at q';cases q'
 |some b=>
  rw[hf]at q';have q:=q';cases b with
  |true=>
   obtain⟨h3,g3,d3,tk3,os3⟩:=s;refine(PySem.W.exm_one (M:=model X.prog X.w) I.kIn LT (hM x true C hf hC)).at ?_;refine codeAny_handlers_suite_as ?_;refine pD (S:=frs X.stack) t0 λh4 c4 t4=>?_;have I4:=I.chg w.ex (h':=h4) c4;obtain⟨oe4,vs4,T4,oT4,ts4,he4,⟨hc4,dn4⟩,hdt4,ne4,_⟩:=id t4;have I4h:=I4.hand w ne4 he4 λv z=>by rw[hdt4]at z;cases z
   refine kM (X:=X.hand a oe4) (v:=.ref a) I4h hN hi (.inl hk) rfl (λs5 I5=>?_) (.inr hk);have E5:EnvOk X.K B O (σ.set i (some (.ref a))) H (Y.set i (some (.sh,.adr a))):=E.setSh rfl;refine wpAny_mono (hh x C a oe4 hf hC hc4 dn4 (by unfold PySem.W.notCls;rw[hdt4]) B O Y Y' pins s5 σ H q I5 E5) (λf s6 z=>?_) λ_ _ z=>False.elim z;obtain⟨rfl,σ',H',O',Y'',I6,E6,e6,s6'⟩:=z;refine Cy (X:=X) (I6.unhand I.ok) hN hi hk λs7 I7=>?_;subst e6;exact k _ H' O' s7 I7 (E6.gone i) s6'
  |false=>
   obtain⟨h3,g3,d3,tk3,os3⟩:=s;refine(PySem.W.exm_one (M:=model X.prog X.w) I.kIn LT (hM x false C hf hC)).at ?_;exact hr x B O Y Y' a C pins _ σ H Q E' q hC I E t0 k
theorem FZ (w:Own X) (hF:PRs X.nox body F) (hG:PY X body G) (hb:HB X (h0::hs) Hd):
  PR X (.Try body (h0::hs) [] [] pos) (qX F G Hd):=by
 intro B O Y pins s σ H D I ⟨E,out,q,k⟩
 unfold qX at q
 cases hg:G Y with
 |none=>
  rw[hg]at q;obtain⟨o,q1,q2⟩:=bind_some q;cases o with
  |nx Y'=>
   cases q2;refine wpAny_Try_except (wpAny_mono (hF B O Y pins s σ H {nx:=λσ' H'=>∃O',Same (msk O H) (msk O' H')/\EnvOk X.K B O' σ' H' Y',rt:=λ_ _=>False} (I.wish _) ⟨E,_,q1,λσ' H' O' s' E'=>⟨O',s',E'⟩⟩) (λf s1 z=>?_) λ_ _ z=>False.elim z);cases f with
   |next=>
    obtain⟨σ',H',I',O',s',E'⟩:=z;exact wpAny_execs_nil ⟨σ',H',I'.unwish,k σ' H' O' s' E'⟩
   |brk=>obtain⟨_,_,_,z⟩:=z;exact False.elim z
   |cont=>obtain⟨_,_,_,z⟩:=z;exact False.elim z
   |ret u=>obtain⟨_,_,_,_,_,z⟩:=z;exact False.elim z
  |_=>cases q2
 |some x=>
  rw[hg]at q;obtain⟨Y',q1,q2⟩:=bind_some q;cases q2;refine wpAny_Try_except (wpAny_mono (hG B O Y x pins s σ H hg I E) (λ_ _ z=>False.elim z) λe s1 z=>?_);obtain⟨a,C,H1,rfl,sm,I1,E1,hC,t⟩:=z;have fr:X.A.frames=some (X.env::X.outer):=by rw[I1.ok.frames,w.stk]
  have st:s1.heap.FunFrames X.base (X.env::X.outer):=by rw[<-w.stk];exact I1.stack
  refine y7 fr st w.fr (λb q=>I1.nowh w.ex q) (.inr (.inl t)) λh2 c2 t2=>?_;have I2:=I1.chg w.ex (h':=h2) (by rw[w.stk];exact c2);refine pD (S:=frs X.stack) (s:={s1 with heap:=h2}) t2 λh3 c3 t3=>?_;have I3:=I2.chg w.ex (h':=h3) c3;exact hb x B O Y Y' a C pins _ σ H1 _ _ q1 hC I3 E1 t3 λσ' H' O' s' I' E' s6=>⟨σ',H',I',k σ' H' O' (sm.msk.trans s6) E'⟩
structure XO (X:Cx) (a C:Addr) (oe:Obj):Prop where
 pn:(a,oe)∈X.pn
 cls:oe.cls=.ref C
 dct:oe.dict=none
 nc:PySem.W.notCls oe=true
 xc:XCls X.K C
def wj:V->Option Value
 |.ref a=>some (.ref a)
 |.ty n=>some (.type n)
 |_=>none
theorem qY (h:wj v=some u) (r:RelV v u'):u'=u:=by
 cases v with
 |ref a=>cases h;exact r
 |ty n=>cases h;exact r
 |_=>cases h
section
variable {X:Cx} {a C:Addr} {oe:Obj}
theorem XO.inst (h:XO X a C oe) {σ:St} (I:Inv X pins σ H s):PySem.W.InstAt s.heap a oe C none:=
 ⟨(I.pin _ (mem_append_left _ h.pn)).1,h.cls,h.nc,by rw[h.dct];trivial⟩
theorem zj (h:XO X a C oe):cL X (.builtin "isinstance") (λxs H Q=>∃c u b,xs=[.ref a,c]/\wj c=some u/\PySem.W.kitOne X.K (.ref C) u=some b/\Q (.bl b) H):=by
 intro pins s σ H xs us Q I r ⟨c,u,b,e,hc,hk,q⟩;subst e;obtain⟨u1,u2,rfl,r1,r2⟩:=qh r;cases(show u1=Value.ref a from r1);obtain rfl:=qY hc r2;exact PySem.W.kia_one (qW h.xc) I.kIn (h.inst I) hk (λz=>nomatch z) λtk=>⟨.bl b,H,I.tok tk,rfl,q⟩
theorem qZ:∀ {vs:List V} {us us':List Value},vs.map wj=us.map some->Vals vs us'->us'=us
 |[],us,_,h,r=>by
  cases r;cases us with
  |nil=>rfl
  |cons _ _=>cases h
 |v::vs,us,_,h,r=>by
  cases r with
  |cons r1 r2=>
   cases us with
   |nil=>cases h
   |cons u us=>
    injection h with h1 h2;rw[qY h1 r1,qZ h2 r2]
theorem wk (h:XO X a C oe):cL X (.builtin "isinstance") (λxs H Q=>∃tp vs us b,xs=[.ref a,.ref tp]/\H tp=some (.tup vs)/\vs.map wj=us.map some/\PySem.W.kitAny X.K (.ref C) us=some b/\Q (.bl b) H):=by
 intro pins s σ H xs us Q I r ⟨tp,vs,us1,b,e,ht,hc,hk,q⟩;subst e;obtain⟨u1,u2,rfl,r1,r2⟩:=qh r;cases(show u1=Value.ref a from r1);cases(show u2=Value.ref tp from r2);obtain⟨its,rv,⟨o,h1,h2,n,h3⟩,_⟩:=I.tuple (SqT.of ht);obtain⟨oc,od,oda,osl⟩:=o;cases(show oc=_ from h2);cases(show oda=_ from h3);obtain rfl:=qZ hc rv;exact PySem.W.kia_tup (qW h.xc) I.kIn (h.inst I) h1 hk (λz=>nomatch z) λtk=>⟨.bl b,H,I.tok tk,rfl,q⟩
structure TC (X:Cx) (C:Addr) (T:Str->Option Bool):Prop where
 ex:∀c b,T c=some b->∃v u,wj v=some u/\(∀p,PE X (.Name c p) (tC v))/\PySem.W.kitOne X.K (.ref C) u=some b
def CA (T:Str->Option Bool):List Expr->Option Bool
 |[]=>some false
 |.Name c _::es=>(T c).bind λb=>(CA T es).bind λd=>some (b||d)
 |_::_=>none
theorem F3 (t:TC X C T):∀ {es:List Expr} {b:Bool},CA T es=some b->∃vs us,vs.map wj=us.map some/\vs.length=es.length/\PySem.W.kitAny X.K (.ref C) us=some b/\PA X es (λσ H Q=>Q vs H):=by
 intro es;induction es with
 |nil=>intro b h;cases h;exact⟨[],[],rfl,rfl,rfl,pa_nil⟩
 |cons e es ih=>
  intro b h;cases e with
  |Name c p=>
   obtain⟨b1,h1,h⟩:=bind_some h;obtain⟨b2,h2,h⟩:=bind_some h;cases h;obtain⟨v,u,e1,e2,e3⟩:=t.ex c b1 h1;obtain⟨vs,us,f1,f2,f3,f4⟩:=ih h2;refine⟨v::vs,u::us,by rw[List.map_cons,List.map_cons,e1,f1],by rw[length_cons,length_cons,f2],?_,(bi (e2 p) f4)⟩;show(match PySem.W.kitOne X.K (.ref C) u with|some true=>some true|some false=>PySem.W.kitAny X.K (.ref C) us|none=>none)=_;rw[e3,f3];cases b1<;>rfl
  |_=>cases h
def Jz (T:Str->Option Bool):Expr->Option Bool
 |.Name c _=>T c
 |.Tuple es _ _=>if es.length<100 then CA T es else none
 |_=>none
def isF (i:Nat) (a:Addr) (b:Bool):Vv->Option D:=λY=>match fP Y i with
 |some (.adr c)=>if c=a then some (.bl b)else none
 |_=>none
theorem F4 (h:XO X a C oe) (t:TC X C T) (hb:Jz T c=some b) (hg:Gl X "isinstance") (hm:X.mg "isinstance"=none) (hv:bootBuiltins "isinstance"=some (.builtin "isinstance")) (hN:X.N[i]?=some n) (hvis:Vis X.env.scope n) (hd:(n==("__debug__":Str))=false) (hcd:(n==("__classdict__":Str))=false):PP X (.Call (.Name "isinstance" p) [.Name n pn,c] [] pos) (isF i a b):=λO Y=>by
 have key:∀ {σ:St} {H:Hp},VE X.K O σ H Y->∀ {d:D},isF i a b Y=some d->d=.bl b/\σ[i]?=some (some (.ref a)):=λ{σ H} E {d} q=>by
  unfold isF at q;split at q
  ·rename_i c q1;obtain⟨rfl,q2⟩:=aw q;refine⟨q2.symm,?_⟩;obtain⟨v,e,iv⟩:=E.sh i _ (jf q1);cases(show v=.ref c from iv);exact e
  ·cases q
 cases c with
 |Name cn pc=>
  obtain⟨v,u,e1,e2,e3⟩:=t.ex cn b hb;refine(fT (zj h) hg hm hv (bi (bO hN hvis hd hcd) (bi (e2 pc) pa_nil))).imp λσ H Q ⟨E,d,q,k⟩=>?_;obtain⟨rfl,e⟩:=key E q;exact⟨_,e,v,u,b,rfl,e1,e3,k _ H (Same.refl _) rfl⟩
 |Tuple es x1 pc=>
  have hb':(if es.length<100 then CA T es else none)=some b:=hb;have hl:es.length<100:=by
   by_cases hl:es.length<100
   ·exact hl
   ·rw[if_neg hl]at hb';cases hb'
  rw[if_pos hl]at hb';have hb:=hb';obtain⟨vs,us,f1,f2,f3,f4⟩:=F3 t hb;refine(fT (wk h) hg hm hv (bi (bO hN hvis hd hcd) (bi (se f4) pa_nil))).imp λσ H Q ⟨E,d,q,k⟩=>?_;obtain⟨rfl,e⟩:=key E q;refine⟨_,e,by rw[f2];exact Nat.le_trans (Nat.le_of_lt hl) (by decide),λtp htp=>⟨tp,vs,us,b,rfl,ai,f1,f3,k _ _ (Same.new htp) rfl⟩⟩
 |_=>cases hb
end
noncomputable def he (S:Sn) (T:Str->Option Bool) (n:Str) (i:Nat) (a:Addr):Expr->Vv->Option D
 |.Call f as ks _=>(match as,ks with
  |[y,c],[]=>(match bL f,bL y with
   |some f,some y=>if f=("isinstance":Str)/\y=n/\glS S f=true/\S.G.no f=true then(match Jz T c with|some b=>isF i a b|none=>noV)else noV
   |_,_=>noV)
  |_,_=>noV)
 |.Constant c _ _=>(match c with
  |.str x=>λ_=>some (.str x)
  |_=>noV)
 |.Name y _=>match bq S y with|some j=>λY=>fP Y j|none=>noV
 |_=>noV
def hes (S:Sn) (T:Str->Option Bool) (n:Str) (i:Nat) (a:Addr):List Expr->Vv->Option (List D)
 |[]=>λ_=>some []
 |e::es=>if aG e&&!bK e then ag (λY=>lfO (he S T n i a e Y)) (hes S T n i a es)else noV
def F5 (S:Sn) (T:Str->Option Bool) (n:Str) (i:Nat) (a:Addr):Expr->Vv->Option D
 |.List es _=>λY=>(ck (hes S T n i a es Y)).bind λds=>some (.lst ds)
 |e=>λY=>lfO (he S T n i a e Y)
def hst (S:Sn) (T:Str->Option Bool) (n:Str) (i:Nat) (a:Addr):Stmt->Ev->Option Out
 |.Assign ts e _=>(match ts with
  |[t]=>(match(bL t).bind (n9 S)with|some j=>if bK e then noO' else ak j (dS (F5 S T n i a e))|none=>noO')
  |_=>noO')
 |_=>noO'
def hss (S:Sn) (T:Str->Option Bool) (n:Str) (i:Nat) (a:Addr):List Stmt->Ev->Option Out
 |[]=>λY=>some (.nx Y)
 |s::r=>ae (hst S T n i a s) (hss S T n i a r)
section
variable {X:Cx} {S:Sn} {T:Str->Option Bool} {n:Str} {i:Nat} {a C:Addr} {oe:Obj}
theorem ppc (h:PE ρ e (tC v)) (k:∀H,Is ρ.K H d v):PP ρ e (λ_=>some d):=λO Y=>h.imp λσ H Q ⟨E,d',q,kk⟩=>by
 cases q;exact kk v H (Same.refl _) (k _)
theorem iz:PP ρ e noV:=λO Y pins s σ H Q I ⟨_,_,q,_⟩=>by cases q
theorem LZ (o:TnOk X.nox S) (h:XO (X.hand a oe) a C oe) (t:TC (X.hand a oe) C T) (hi:bq S n=some i) (e:Expr):PP (X.hand a oe) e (he S T n i a e):=by
 unfold he;split
 ·rename_i f as ks pos;split
  ·rename_i y c;split
   ·rename_i f' y' hf hy;obtain⟨p,rfl⟩:=aJ hf;obtain⟨pn,rfl⟩:=aJ hy;split
    ·rename_i q;obtain⟨rfl,rfl,g1,g2⟩:=q;obtain⟨ok,gl⟩:=bn o.s g1;obtain⟨h1,h2,h3,_⟩:=aR o.s hi;obtain⟨a1,b1⟩:=cR h1;split
     ·rename_i b hb;exact F4 h t hb gl (o.s.g.no _ g2) (by decide+kernel) h3 h2 a1 b1
     ·exact iz
    ·exact iz
   ·exact iz
  ·exact iz
 ·split
  ·exact ppc pe_str λ_=>rfl
  ·exact iz
 ·rename_i y p;split
  ·rename_i j hj;obtain⟨h1,h2,h3,_⟩:=aR o.s hj;obtain⟨a1,b1⟩:=cR h1;exactλO Y=>(bO (X:=X.hand a oe) h3 h2 a1 b1).imp λσ H Q ⟨E,d,q,k⟩=>by
    obtain⟨v,e,iv⟩:=E.sh j d (jf q);exact⟨v,e,k v H (Same.refl _) iv⟩
  ·exact iz
 ·exact iz
theorem DI (o:TnOk X.nox S) (h:XO (X.hand a oe) a C oe) (t:TC (X.hand a oe) C T) (hi:bq S n=some i) (hc:bK e=false):PFr (X.hand a oe) e (λY=>lfO (he S T n i a e Y)):=
 Dp λO Y=>PE.pu (LZ o h t hi e O Y) hc
theorem DJ (o:TnOk X.nox S) (h:XO (X.hand a oe) a C oe) (t:TC (X.hand a oe) C T) (hi:bq S n=some i):∀es:List Expr,qy (X.hand a oe) es (hes S T n i a es)
 |[]=>um
 |e::es=>by
  unfold hes;split
  ·rename_i q;rw[and_eq_true]at q;exact frs_cons (DI o h t hi (by simpa using q.2)) (DJ o h t hi es) (star1 q.1)
  ·exact sV
theorem F6 (o:TnOk X.nox S) (h:XO (X.hand a oe) a C oe) (t:TC (X.hand a oe) C T) (hi:bq S n=some i) (hc:bK e=false):PFr (X.hand a oe) e (F5 S T n i a e):=by
 unfold F5;split
 ·exact xw (DJ o h t hi _)
 ·exact DI o h t hi hc
theorem JA (o:TnOk X.nox S) (h:XO (X.hand a oe) a C oe) (t:TC (X.hand a oe) C T) (hi:bq S n=some i) (st:Stmt):PR (X.hand a oe) st (hst S T n i a st):=by
 unfold hst;split
 ·rename_i ts e q;split
  ·split
   ·rename_i j hj;obtain⟨y,h1,hj⟩:=bind_some hj;obtain⟨p,rfl⟩:=aJ h1;split
    ·exact bw
    ·rename_i hc;have hc:bK e=false:=by simpa using hc
     obtain⟨ok,lc,hN⟩:=iq o hj;exact xA (X:=X.hand a oe) (by have:=o.s.N;show X.N.Nodup;rw[show X.N=S.N from this];exact o.s.nd) hN lc (Dr (F6 o h t hi hc)) (.inl (o.fn y)) (.inl (swaps_no hc _ _ _))
   ·exact bw
  ·exact bw
 ·exact bw
theorem DK (o:TnOk X.nox S) (h:XO (X.hand a oe) a C oe) (t:TC (X.hand a oe) C T) (hi:bq S n=some i):∀st:List Stmt,PRs (X.hand a oe) st (hss S T n i a st)
 |[]=>sw
 |s::r=>oV (JA o h t hi s) (DK o h t hi r)
end
def hdX (i:Nat) (R:Addr->Ev->Option Out) (Y:Ev):Option Ev:=by
 classical
 exact if h:∃Y',∀a,∃Y'',R a (Y.set i (some (.sh,.adr a)))=some (.nx Y'')/\Y''.set i none=Y' then some h.choose else none
theorem zk (h:hdX i R Y=some Y') (a:Addr):∃Y'',R a (Y.set i (some (.sh,.adr a)))=some (.nx Y'')/\Y''.set i none=Y':=by
 unfold hdX at h;split at h
 ·rename_i q;cases h;exact q.choose_spec a
 ·cases h
theorem F7 {R:Addr->Ev->Option Out} {Y Y':Ev} (h:∀a,∃Y'',R a (Y.set i (some (.sh,.adr a)))=some (.nx Y'')/\Y''.set i none=Y'):hdX i R Y=some Y':=by
 have q:∃Y',∀a,∃Y'',R a (Y.set i (some (.sh,.adr a)))=some (.nx Y'')/\Y''.set i none=Y':=⟨Y',h⟩;unfold hdX;rw[dif_pos q];obtain⟨r1,e1,e2⟩:=q.choose_spec 0;obtain⟨r2,e3,e4⟩:=h 0;grind
theorem JB (h:PRs (X.hand a oe) suite (R a)):HS X i suite a oe (hdX i R):=by
 intro B O Y Y' pins s σ H q I E;obtain⟨Y'',e1,e2⟩:=zk q a;refine wpAny_mono (h B O _ pins s _ H {nx:=λσ' H'=>∃O',Same (msk O H) (msk O' H')/\EnvOk X.K B O' σ' H' Y'',rt:=λ_ _=>False} I ⟨E,_,e1,λσ' H' O' s' E'=>⟨O',s',E'⟩⟩) (λf s' z=>?_) λ_ _ z=>z;cases f with
 |next=>
  obtain⟨σ',H',I',O',s',E'⟩:=z;exact⟨rfl,σ',H',O',Y'',I',E',e2,s'⟩
 |brk=>obtain⟨_,_,_,z⟩:=z;exact False.elim z
 |cont=>obtain⟨_,_,_,z⟩:=z;exact False.elim z
 |ret u=>obtain⟨_,_,_,_,_,z⟩:=z;exact False.elim z
def PY1 (X:Cx) (st:Stmt) (G:Ev->Option Str):Prop:=∀B O Y x pins s σ H,G Y=some x->Inv X pins σ H s->EnvOk X.K B O σ H Y->
 wpAny (model X.prog X.w) X.A (exec st X.env) (λ_ _=>False) (EX X B O Y pins σ H x) s
theorem EX.mono (sm:Same H0 H1):EX X B O Y pins σ H1 x e s->EX X B O Y pins σ H0 x e s:=
 λ⟨a,C,H,h1,h0,h2⟩=>⟨a,C,H,h1,sm.trans h0,h2⟩
section
variable {X:Cx} {st:Stmt} {e c:Expr} {G G':Ev->Option Str} {pos:Pos} {a b:List Stmt}
theorem DL:PY X a noZ:=λ_ _ _ _ _ _ _ _ q=>by cases q
theorem pE:PY1 X st noZ:=λ_ _ _ _ _ _ _ _ q=>by cases q
theorem F8 (h:PY1 X st G):PY X (st::r) G:=λB O Y x pins s σ H q I E=>wpAny_execs_cons (thn (h B O Y x pins s σ H q I E) λ_ _ z=>False.elim z)
theorem CB (h:PZE X e G) (hs:swapsWith e none pos.line X.env=pure false):PY1 X (.Expr e pos) G:=λB O Y x pins s σ H q I E=>
 wpAny_Expr_any (thn (h B O Y x pins s σ H q I E) λ_ _ z=>False.elim z) I.quiet hs
theorem F9 (h:PZE X e G) (hs:swapsWith e (some (.Name y pos')) pos.line X.env=pure false):PY1 X (.Assign [.Name y pos'] e pos) G:=λB O Y x pins s σ H q I E=>
 wpAny_Assign_Name (thn (h B O Y x pins s σ H q I E) λ_ _ z=>False.elim z) hs
theorem JC (hc:∀E,PQ (X.wish E) c fc) (ha:PY X a G) (hb:PY X b G'):PY1 X (.If c a b pos) (ifZ fc G G'):=λB O Y x pins s σ H q I E=>by
 obtain⟨d,q1,q2⟩:=bind_some q;refine wpAny_If (thn (hc (EX X B O Y pins σ H x) noO (vw Y) pins s σ H (λd' H1=>d'=d/\Same H H1) (I.wish _) ⟨E.view,d,q1,λH' s'=>⟨rfl,s'⟩⟩) λd' s1 ⟨H1,I1,e1,sm⟩=>?_);subst e1;cases d' with
 |true=>rw[if_pos rfl]at q2;exact wpAny_mono (ha B O Y x pins s1 σ H1 q2 I1.unwish (E.grow sm)) (λ_ _ z=>z) λ_ _ z=>z.mono sm
 |false=>rw[if_neg Bool.false_ne_true]at q2;exact wpAny_mono (hb B O Y x pins s1 σ H1 q2 I1.unwish (E.grow sm)) (λ_ _ z=>z) λ_ _ z=>z.mono sm
end
mutual
noncomputable def yx:Nat->Sn->Zn->Stmt->Ev->Option Str
 |0=>λ_ _ _=>noZ
 |n+1=>λS Z st=>match st with
  |.If c a b _=>ifZ (rq n S c) (yxs n S Z a) (yxs n S Z b)
  |.Expr e _=>iV n S Z e
  |.Assign [.Name _ _] e _=>iV n S Z e
  |_=>noZ
noncomputable def yxs:Nat->Sn->Zn->List Stmt->Ev->Option Str
 |0=>λ_ _ _=>noZ
 |n+1=>λS Z st=>match st with
  |s::_=>yx n S Z s
  |_=>noZ
end
theorem L3 (w:Own X) (o:TnOk X.nox S) (z:ZOk X.prog X.w X.K X.mg X.base Z):∀n,(∀st,PY1 X st (yx n S Z st))/\∀st,PY X st (yxs n S Z st):=by
 intro n;induction n with
 |zero=>exact⟨λst=>pE,λst=>DL⟩
 |succ n ih=>
  refine⟨λst=>?_,λst=>?_⟩
  ·unfold yx;split
   ·exact JC (λE=>(sound n).rq _ S (o.s.wish E) _) (ih.2 _) (ih.2 _)
   ·rename_i e p;cases hc:bK e with
    |true=>rw[fB hc];exact pE
    |false=>exact CB (s_zcall w o z n e) (swaps_no hc _ _ _)
   ·rename_i y p e q;cases hc:bK e with
    |true=>rw[fB hc];exact pE
    |false=>exact F9 (s_zcall w o z n e) (swaps_no hc _ _ _)
   ·exact pE
  ·unfold yxs;split
   ·exact F8 (ih.1 _)
   ·exact DL
theorem CC {K} {sn} (X:K.In base) (hN:base.Ns mainGlobals mg) (e:nsIn K mainGlobals x=some (some (.ref C))) (lk:K.lookup C=some (excClassObj nm qn C N bs bm hdct sn sub ab col dd k0 k1 k2 k3 k5 "ValueError.__new__")) (ok:PySem.W.nsOkIn K N=true) (ni:nsIn K N "__init__"=some none) (tl:PySem.W.tailIn K bmV bm=true):RCls K mg base x:=
 ⟨C,e,PySem.W.mg_of X hN e,bm,N,nm,qn,bs,hdct,sn,sub,ab,col,dd,k0,k1,k2,k3,k5,_,X _ _ lk,.of_isNs (PySem.W.isNs_of_in X ok),PySem.W.nsMap_none_of_in X ok ni,PySem.W.tail_of_in X tl⟩
structure XTab (K:Frag) (mg:Str->Option Value) (tb:Str->Str->Option Bool) (hb:Str->Bool):Prop where
 xc:∀x c b,tb x c=some b->∀C,nsIn K mainGlobals x=some (some (.ref C))->XCls K C
 nm:∀x c b,tb x c=some b->∀C,nsIn K mainGlobals x=some (some (.ref C))->(∃Cc,mg c=some (.ref Cc)/\PySem.W.kitOne K (.ref C) (.ref Cc)=some b)\/(∃T,c≠"__name__"/\mg c=none/\bootBuiltins c=some (.type T)/\PySem.W.kitOne K (.ref C) (.type T)=some b)
 hd:∀M,hb M=true->∃Mc,mg M=some (.ref Mc)/\∀x b C,tb x M=some b->nsIn K mainGlobals x=some (some (.ref C))->PySem.W.exmOne K (.ref C) (.ref Mc)=some b
def tbS (S:Sn) (tb:Str->Str->Option Bool) (x c:Str):Option Bool:=if glS S c then tb x c else none
theorem JD {X:Cx} (o:TnOk X.nox S) (t:XTab X.K X.mg tb hb) (hC:nsIn X.K mainGlobals x=some (some (.ref C))):TC (X.hand a oe) C (tbS S tb x):=⟨λc b h=>by
 unfold tbS at h;split at h
 ·rename_i g;obtain⟨ok,gl⟩:=bn o.s g;obtain⟨n1,_,_⟩:=bJ ok;rcases t.nm x c b h C hC with⟨Cc,h1,h2⟩|⟨T,h1,h2,h3,h4⟩
  ·exact⟨.ref Cc,_,rfl,λp=>tV (X:=X.hand a oe) gl h1 rfl n1,h2⟩
  ·exact⟨.ty T,_,rfl,λp=>tW (X:=X.hand a oe) gl h2 h3 rfl h1 n1,h4⟩
 ·cases h⟩
def hdP:ExceptHandler->Option (Str×Str×Stmt×List Stmt)
 |.ExceptHandler (some (.Name M _)) (some n) (b0::suite) _=>some (M,n,b0,suite)
 |_=>none
noncomputable def CD (S:Sn) (tb:Str->Str->Option Bool) (hb:Str->Bool):List ExceptHandler->Str->Ev->Option Ev
 |[]=>λ_ _=>none
 |h::hs=>match hdP h with
  |some (M,n,b0,suite)=>(match bq S n with
   |some i=>if glS S M&&hb M&&decide (S.nm.lookup n=some .local)then hdC (λx=>tb x M) (λx=>hdX i (λa=>hss S (tbS S tb x) n i a (b0::suite))) (CD S tb hb hs)elseλ_ _=>none
   |none=>λ_ _=>none)
  |none=>λ_ _=>none
def Ga (m:Nat) (S:Sn) (Z:Zn) (tb:Str->Str->Option Bool) (hb:Str->Bool) (st:Stmt):Ev->Option Out:=match st with
 |.Try body (h0::hs) [] [] _=>qX (exs m S body) (yxs m S Z body) (CD S tb hb (h0::hs))
 |st=>ex m S st
def exY (m:Nat) (S:Sn) (Z:Zn) (tb:Str->Str->Option Bool) (hb:Str->Bool):List Stmt->Ev->Option Out
 |[]=>λY=>some (.nx Y)
 |st::r=>ae (Ga m S Z tb hb st) (exY m S Z tb hb r)
section
variable {X:Cx} {S:Sn} {Z:Zn} {tb:Str->Str->Option Bool} {hb:Str->Bool}
theorem zo:HB X hs (λ_ _=>none):=λ_ _ _ _ _ _ _ _ _ _ _ _ _ q=>by cases q
theorem zp (w:Own X) (o:TnOk X.nox S) (t:XTab X.K X.mg tb hb):∀hs:List ExceptHandler,HB X hs (CD S tb hb hs)
 |[]=>FY
 |h::hs=>by
  unfold CD;split
  ·rename_i M n b0 suite hp;split
   ·rename_i i hi;split
    ·rename_i c;simp only[and_eq_true,decide_eq_true_eq]at c;obtain⟨⟨c1,c2⟩,c3⟩:=c;obtain⟨ok,gl⟩:=bn o.s c1;obtain⟨h1,h2,h3,_⟩:=aR o.s hi;obtain⟨Mc,hm,hM⟩:=t.hd M c2;unfold hdP at hp;split at hp
     ·cases hp;exact Cz w gl hm (bJ ok).1 (by rw[show X.N=S.N from o.s.N];exact o.s.nd) h3 (by have:=o.nm;rw[show X.env.scope.names=S.nm from this];exact c3) (λx b C q hC=>hM x b C q hC)
       (λx C a oe q hC e1 e2 e3=>JB (DK o ⟨mem_cons_self,e1,e2,e3,t.xc x M true q C hC⟩ (JD o t hC) hi _)) (zp w o t hs)
     ·cases hp
    ·exact zo
   ·exact zo
  ·exact zo
theorem Gc (w:Own X) (o:TnOk X.nox S) (z:ZOk X.prog X.w X.K X.mg X.base Z) (t:XTab X.K X.mg tb hb) (m:Nat) (st:Stmt):PR X.nox st (Ga m S Z tb hb st):=by
 unfold Ga;split
 ·have w':Own X.nox:=⟨w.ex,w.stk,w.fr⟩;exact FZ (X:=X.nox) w' ((qN m).2 _ S o _) ((L3 (X:=X.nox) w' o z m).2 _) (zp (X:=X.nox) w' o t _)
 ·exact(qN m).1 _ S o _
theorem DM (w:Own X) (o:TnOk X.nox S) (z:ZOk X.prog X.w X.K X.mg X.base Z) (t:XTab X.K X.mg tb hb) (m:Nat):∀st:List Stmt,PRs X.nox st (exY m S Z tb hb st)
 |[]=>sw
 |s::r=>oV (Gc w o z t m s) (DM w o z t m r)
end
section
variable {P:Program} {w:World} {K:Frag} {mg:Str->Option Value} {base:Heap}
def JE (n k:Nat) (N ps:List Str) (st:Stmt) (G:Gb) (Z:Zn) (tb:Str->Str->Option Bool) (hb:Str->Bool):List D->Option Sl:=bj ps.length N.length (exY n (qP N st k G) Z tb hb (aK st))
theorem Ge (g:GbOk P w K mg base G) (z:ZOk P w K mg base Z) (xt:XTab K mg tb hb) (KX:K.In h) (hN:h.Ns mainGlobals mg) {st} (n k:Nat) (S:FnScope N ps (aj st)) (b:cx x st ps) (t:bo K x st):Df P w K mg base x (k+1) (JE n k N ps st G Z tb hb):=by
 obtain⟨f,oc,od,an,osl,kV,doc,pm,cdv,ct,h1,h2,h3,h4⟩:=t;have Fn:=kW (st:=st) h2 h3 h4;refine⟨f,_,ps,PySem.W.mg_of KX hN h1,h4,Fn.binds λkV doc pm an cdv ct us hl=>b x kV doc pm an cdv ct us hl,E8 Fn S λcdv A outer s H E hr=>?_⟩;exact DM (X:=ic CX0 P w K mg base N x (aj st) f cdv A outer s H E) zg (qQ g S cdv A outer s H E hr) z xt n _
end
def f9 (Z:Zn) (f:Str) (k:Nat) (g:List D->Option Str):Zn:={Z with df:=λx=>if x=f then some (k,g)else Z.df x}
section
variable {P:Program} {w:World} {K:Frag} {mg:Str->Option Value} {base:Heap} {Z:Zn} {f:Str} {k:Nat} {g:List D->Option Str}
theorem ZOk.addf (z:ZOk P w K mg base Z) (h:Dx P w K mg base f k g):ZOk P w K mg base (f9 Z f k g) where
 cl:=z.cl
 df:=λx k' g' e=>by
  have e':(if x=f then some (k,g)else Z.df x)=some (k',g'):=e;split at e'
  ·rename_i q;subst q;cases e';exact h
  ·exact z.df x k' g' e'
 mz:=z.mz
end
def thZ (z:Ev->Option Str) (r:Ev->Option Out) (t:Ev->Option Str):Ev->Option Str:=orO z (sqZ r t)
def frZ (J:Vv->Option (List D)) (tg:D->Ev->Option Ev) (F:Ev->Option Out) (G:Ev->Option Str):Ev->Option Str:=orO (foZ J tg F G) (fzZ J tg F G)
def isN (o:Option Bool) (i:Nat) (a:Addr):Vv->Option D:=match o with|some b=>isF i a b|none=>noV
def lfE (f:Vv->Option D):Vv->Option D:=λY=>lfO (f Y)
def tbX (ns:List Str) (x c:Str):Option Bool:=if x∈ns then(if c=("MillError":Str)\/c=("ValueError":Str)then some true else if c∈ns then some (decide (x=c))else none)else none
theorem zt {Y:Ev} {x:Str} (h:G Y=some x):orO G G' Y=some x:=by unfold orO;rw[h]
theorem zu {G G':Ev->Option Str} (h:G Y=none):orO G G' Y=G' Y:=by unfold orO;rw[h]
theorem uT (h:z Y=some x):thZ z r t Y=some x:=zt h
theorem uU (h:z Y=none) (q:r Y=some (.nx Y')):thZ z r t Y=t Y':=by
 unfold thZ;rw[zu h];unfold sqZ;rw[q];rfl
theorem CF (h:fc (vw Y)=some c):ifZ fc G G' Y=if c=true then G Y else G' Y:=by unfold ifZ;rw[h];rfl
theorem Gf (h:G Y=none) (q:F Y=some (.nx Y')):qX F G Hd Y=some (.nx Y'):=by unfold qX;rw[h,q];rfl
theorem tq (h:G Y=some x) (q:Hd x Y=some Y'):qX F G Hd Y=some (.nx Y'):=by simp_all [Ev,qX]
theorem tu (h:f x=some true):hdC f H1 H2 x=H1 x:=by unfold hdC;rw[h]
theorem zv (h:f x=some false):hdC f H1 H2 x=H2 x:=by unfold hdC;rw[h]
structure TExc (K:Frag) (x:Str):Prop where
 r:∀ {mg:Str->Option Value} {base:Heap},K.In base->base.Ns mainGlobals mg->RCls K mg base x
theorem CG {K} {sn} (e:nsIn K mainGlobals x=some (some (.ref C))) (lk:K.lookup C=some (excClassObj nm qn C N bs bm hdct sn sub ab col dd k0 k1 k2 k3 k5 "ValueError.__new__")) (ok:PySem.W.nsOkIn K N=true) (ni:nsIn K N "__init__"=some none) (tl:PySem.W.tailIn K bmV bm=true):TExc K x:=
 ⟨λX hN=>CC X hN e lk ok ni tl⟩
def zw (o:Option (Option Value)) (a:Addr):Bool:=match o with
 |some (some (.ref b))=>b==a
 |_=>false
theorem zy (h:zw o a=true):o=some (some (.ref a)):=by
 unfold zw at h;grind
def uV (o:Option (Option Value)) (n:String):Bool:=match o with
 |some (some (.builtin m))=>m==n
 |_=>false
theorem q0 (h:uV o n=true):o=some (some (.builtin n)):=by
 unfold uV at h;grind
def zA (o:Option (Option Value)):Bool:=match o with
 |some none=>true
 |_=>false
theorem zB (h:zA o=true):o=some none:=by
 unfold zA at h;split at h
 ·rfl
 ·cases h
noncomputable def zC (K:Frag) (C:Addr):Bool:=uV (findIn K (.ref C) "__getattribute__") "BaseException.__getattribute__"&&zA (findIn K (.ref C) "__getattr__")&&uV (findIn K (.ref C) "__class__") "object.__class__"&&
 decide (PySem.W.subIn K (.ref C) (.type "BaseException")=some true)&&decide (PySem.W.mroIn K C (.type "object")=some true)&&(PySem.W.clsIn K C).isSome
theorem zD {K} (h:zC K C=true):XCls K C:=by
 unfold zC at h;simp only[and_eq_true,decide_eq_true_eq]at h;obtain⟨⟨⟨⟨⟨h1,h2⟩,h3⟩,h4⟩,h5⟩,h6⟩:=h;exact⟨q0 h1,zB h2,q0 h3,h4,h5,h6⟩
noncomputable def Gg (K:Frag) (M:Addr) (as:List (Str×Addr)) (p:Str×Addr):Bool:=zw (nsIn K mainGlobals p.1) p.2&&zC K p.2&&decide (PySem.W.kitOne K (.ref p.2) (.ref M)=some true)&&decide (PySem.W.kitOne K (.ref p.2) (.type "ValueError")=some true)&&
 decide (PySem.W.exmOne K (.ref p.2) (.ref M)=some true)&&as.all λq=>decide (PySem.W.kitOne K (.ref p.2) (.ref q.2)=some (decide (p.1=q.1)))&&decide (PySem.W.exmOne K (.ref p.2) (.ref q.2)=some (decide (p.1=q.1)))
structure TXs (K:Frag) (ns:List Str):Prop where
 ex:∃ (as:List (Str×Addr)) (M:Addr),ns=as.map (·.1)/\nsIn K mainGlobals "MillError"=some (some (.ref M))/\nsIn K mainGlobals "ValueError"=some none/\∀p∈as,Gg K M as p=true
theorem txs {K} (as:List (Str×Addr)) (e:ns=as.map (·.1)) (hM:nsIn K mainGlobals "MillError"=some (some (.ref M))) (hV:nsIn K mainGlobals "ValueError"=some none) (h:as.all (Gg K M as)=true):TXs K ns:=by constructor<;>grind
def hbX (ns:List Str) (M:Str):Bool:=decide (M=("MillError":Str))||decide (M∈ns)
theorem CH {K} (t:TXs K ns) (X:K.In h) (hN:h.Ns mainGlobals mg):XTab K mg (tbX ns) (hbX ns):=by
 obtain⟨as,M,e,hM,hV,ha⟩:=t.ex;have at':∀x∈ns,∃a,(x,a)∈as/\nsIn K mainGlobals x=some (some (.ref a))/\XCls K a/\PySem.W.kitOne K (.ref a) (.ref M)=some true/\PySem.W.kitOne K (.ref a) (.type "ValueError")=some true/\PySem.W.exmOne K (.ref a) (.ref M)=some true/\
   ∀q∈as,PySem.W.kitOne K (.ref a) (.ref q.2)=some (decide (x=q.1))/\PySem.W.exmOne K (.ref a) (.ref q.2)=some (decide (x=q.1)):=λx hx=>by
  rw[e]at hx
  obtain⟨p,hp,rfl⟩:=List.mem_map.mp hx
  have z:=ha p hp
  unfold Gg at z
  simp only[and_eq_true,decide_eq_true_eq,List.all_eq_true]at z
  obtain⟨⟨⟨⟨⟨z1,z2⟩,z3⟩,z4⟩,z5⟩,z6⟩:=z
  exact⟨p.2,hp,zy z1,zD z2,z3,z4,z5,z6⟩
 have tb:∀x c b,tbX ns x c=some b->x∈ns/\((c=("MillError":Str)/\b=true)\/(c=("ValueError":Str)/\b=true)\/(c∈ns/\b=decide (x=c))):=λx c b h=>by
  unfold tbX at h;split at h
  ·rename_i h1;refine⟨h1,?_⟩;split at h
   ·rename_i q;cases h;exact q.elim (λq=>.inl ⟨q,rfl⟩) λq=>.inr (.inl ⟨q,rfl⟩)
   ·split at h
    ·rename_i h2;cases h;exact .inr (.inr ⟨h2,rfl⟩)
    ·cases h
  ·cases h
 refine⟨λx c b h C hC=>?_,λx c b h C hC=>?_,λm hm=>?_⟩
 ·obtain⟨a,_,h1,h2,_⟩:=at' x (tb x c b h).1;rw[h1]at hC;cases hC;exact h2
 ·obtain⟨hx,q⟩:=tb x c b h;obtain⟨a,_,h1,_,h3,h4,_,h6⟩:=at' x hx;rw[h1]at hC;cases hC;rcases q with⟨rfl,rfl⟩|⟨rfl,rfl⟩|⟨hc,rfl⟩
  ·exact .inl ⟨M,PySem.W.mg_of X hN hM,h3⟩
  ·exact .inr ⟨"ValueError",by decide,PySem.W.mg_none_of X hN hV,by decide+kernel,h4⟩
  ·obtain⟨ac,hac,g1,_⟩:=at' c hc;exact .inl ⟨ac,PySem.W.mg_of X hN g1,(h6 _ hac).1⟩
 ·unfold hbX at hm;rw[Bool.or_eq_true,decide_eq_true_eq,decide_eq_true_eq]at hm;by_cases c:m=("MillError":Str)
  ·subst c;refine⟨M,PySem.W.mg_of X hN hM,λx b C h hC=>?_⟩;obtain⟨hx,q⟩:=tb x _ b h;obtain⟨a,_,h1,_,_,_,h5,h6⟩:=at' x hx;rw[h1]at hC;cases hC;have hb:b=true:=by
    unfold tbX at h;rw[if_pos hx,if_pos (.inl rfl)]at h;cases h;rfl
   rw[hb];exact h5
  ·have hmn:m∈ns:=hm.resolve_left c;obtain⟨am,ham,g1,_⟩:=at' m hmn;refine⟨am,PySem.W.mg_of X hN g1,λx b C h hC=>?_⟩;obtain⟨hx,q⟩:=tb x _ b h;obtain⟨a,_,h1,_,_,_,_,h6⟩:=at' x hx;rw[h1]at hC;cases hC;by_cases v:m=("ValueError":Str)
   ·subst v;rw[hV]at g1;cases g1
   ·rcases q with⟨q,_⟩|⟨q,_⟩|⟨_,rfl⟩
    ·exact absurd q c
    ·exact absurd q v
    ·exact(h6 _ ham).2
structure Lt where
 s:Int
 t:Nat
 w:List Nat
structure LtOk (ps:List (List Pk)) (l:Lt):Prop where
 s1:1<=l.s
 s9:l.s<=9
 t:l.t<=ps.length
 w:WordOk ps l.t l.w
 fit:∀q∈l.w.zip (ps.drop l.t),l.s<=(LO q).2
theorem JF (h:(xs Y).bind uv=some ds):jX (enF xs) R Y=some ds:=by
 unfold jX orO enF;rw[h]
theorem wm {β:Type} {f} (xs:List β):lG (xs.map f)=(xs.zipIdx).map λp=>.tup [.int (p.2:Nat),f p.1]:=by
 unfold lG;rw[List.zipIdx_map,List.map_map];rfl
def rowD (r:List Nat):D:=.lst (r.map λ(k:Nat)=>D.int (k:Int))
theorem oh:∀ {es:List D},lfL es=true->extC .deep es=.deep
 |[],_=>rfl
 |d::es,h=>by
  rw[yM,and_eq_true]at h;show extC (newCat .deep (extS d)) es=.deep;rw[show newCat .deep (extS d)=.deep by unfold extS newCat;rw[h.1];rfl];exact oh h.2
theorem wn (h0:fR Y i=some (.deep,ds)) (hR:R (shv Y)=some (.lst es)) (lf:lfL es=true) (hl:ds.length+es.length<big):xN i R Y=some (.nx (Y.set i (some (.deep,.lst (ds++es))))):=by
 have e:BK i R Y=some (.nx (Y.set i (some (.deep,.lst (ds++es))))):=by
  unfold BK;rw[h0];simp only[Option.bind_some,hR];show(if ds.length+es.length<big then _ else _)=_;rw[if_pos hl,oh lf]
 unfold xN orO;rw[e]
end L2
namespace L2
open PySem PySem.Spec PyProof.Rows
def cW (fl:Str->Str->Bool):Ev->Option Out:=(ae (frF (jX noV (flF fl "passes" (va 0))) (eNm 1) (ae (ifS (trF (biF m6 (ag (lsF (au [2,3] (jX noV (va 1)) (gTp 2 (aI (gNm 2) (aI (gNm 3) dh))) tQ (aa (aF false) (va 3) (cI 0)))) aC))) (ae noO' nxE) nxE) nxE)) nxE)
noncomputable def iX (aV:List D->Option Sl):Ev->Option Out:=(ae (ifS (orQ (dG (trF (biF iK (ag (va 0) (ag (tpF (ag (cT "list") (ag (cT "tuple") aC))) aC))))) (ar (aa gtD (biF bP (ag (va 0) aC)) (cD (.int 24))))) (ae (fQ (evX (cB false) noV noV)) nxE) nxE) (ae (fQ (evX (mW (biF ss (ag (lsF (au [1] (jX noV (va 0)) (gNm 1) tQ (clF aV (ag (va 1) (ag (cI 0) (ag (aa cg (biF bP (ag (va 0) aC)) (cI 1)) aC)))))) aC)) (aa (aF false) (liG (ag (va 0) aC) (s1F (ag (va 0) aC))) (liG (ag (biF noD (ag (biF bP (ag (va 0) aC)) aC)) aC) (orO (lrF (ag (biF bP (ag (va 0) aC)) aC)) (l1F (ag (biF noD (ag (biF bP (ag (va 0) aC)) aC)) aC)))))) noV noV)) nxE))
section
variable {G F:Ev->Option Out} {Y Y':Ev} {out:Option Out}
theorem q_set (h:g Y=some (s,Y')) (k:G (Y'.set i (some s))=out):ae (ak i g) G Y=out:=(az (cy h)).trans k
theorem zE (h:f (vw Y)=some d) (k:G Y=out):ae (lC f) G Y=out:=(az (yX h)).trans k
theorem bG (h:c (vw Y)=some false) (k:G Y=out):ae (ifS c F nxE) G Y=out:=(az ((eh h).trans rfl)).trans k
theorem zG (h:F Y=some (.nx Y')) (k:G Y'=out):ae F G Y=out:=(az h).trans k
theorem bt (h:g Y=some (s,Y')):ae (fQ g) G Y=some (.rt s):=aN (dH h)
theorem JG (I:Nat->Ev->Prop) (hJ:J (shv Y)=some ds) (h0:I 0 Y) (hs:∀ (i:Nat) (d:D) (Y:Ev),ds[i]?=some d->I i Y->∃Y',(tg d Y).bind F=some (.nx Y')/\I (i+1) Y') (k:∀Y',I ds.length Y'->G Y'=out):ae (frF J tg F) G Y=out:=by
 obtain⟨Y',e,i⟩:=gC (tg:=tg) (F:=F) I hJ h0 hs;exact(az e).trans (k _ i)
theorem zH {β:Type} {xs:List β} {mk} (I:Nat->Ev->Prop) (hJ:J (shv Y)=some (xs.map mk)) (h0:I 0 Y) (hs:∀ (i:Nat) (x:β) (Y:Ev),xs[i]?=some x->I i Y->∃Y',(tg (mk x) Y).bind F=some (.nx Y')/\I (i+1) Y') (k:∀Y',I xs.length Y'->G Y'=out):ae (frF J tg F) G Y=out:=JG I hJ h0 (λi d Y hd hi=>by
 rw[getElem?_map]at hd;cases hx:xs[i]? with
 |none=>rw[hx]at hd;cases hd
 |some x=>rw[hx]at hd;cases hd;exact hs i x Y hx hi) (by rw[length_map];exact k)
theorem Gh {β:Type} {xs:List β} {mk} (I:Nat->Ev->Prop) (hJ:J (shv Y)=some (xs.map mk)) (h0:I 0 Y) (hs:∀ (i:Nat) (x:β) (Y:Ev),xs[i]?=some x->I i Y->∃Y',(tg (mk x) Y).bind F=some (.nx Y')/\I (i+1) Y'):
  ∃Y',ae (frF J tg F) nxE Y=some (.nx Y'):=by
 obtain⟨Y',e,i⟩:=gC (tg:=tg) (F:=F) I hJ h0 (λi d Y hd hi=>by
  rw[getElem?_map]at hd;cases hx:xs[i]? with
  |none=>rw[hx]at hd;cases hd
  |some x=>rw[hx]at hd;cases hd;exact hs i x Y hx hi)
 exact⟨Y',(az e).trans rfl⟩
theorem JH {v:Nat->Int} (I:Nat->Ev->Prop) (hJ:J (shv Y)=some ((List.range n).map λi=>D.int (v i))) (h0:I 0 Y) (hs:∀ (i:Nat) (Y:Ev),i<n->I i Y->∃Y',F (Y.set s (some (.sh,.int (v i))))=some (.nx Y')/\I (i+1) Y') (k:∀Y',I n Y'->G Y'=out):ae (frF J (eNm s) F) G Y=out:=by
 obtain⟨Y',e,i⟩:=uR (s:=s) (F:=F) I hJ h0 hs;exact(az e).trans (k _ i)
end
theorem iA:∀r:List Nat,dA (r.map λ(k:Nat)=>D.int (k:Int))=some (r.map λ(k:Nat)=>(k:Int))
 |[]=>rfl
 |k::r=>by
  show(dA (r.map λ(k:Nat)=>D.int (k:Int))).bind (λxs=>some ((k:Int)::xs))=_;rw[iA r];rfl
theorem CI {r:List Nat} (h:r.Perm (List.range n)):jn (r.map λ(k:Nat)=>(k:Int))=(List.range n).map λ(k:Nat)=>(k:Int):=by
 refine(xV (h.symm.map _) ?_).symm;rw[List.pairwise_map];exact List.pairwise_lt_range.imp λh=>by omega
theorem q8 (h:r.Perm (List.range n)) (hn:n<=24):jO [rowD r]=some ((List.range n).map λ(k:Nat)=>D.int (k:Int)):=by
 show((dA (r.map λ(k:Nat)=>D.int (k:Int))).bind λns=>if ns.length<64 then some ((jn ns).map D.int)else none)=_;rw[iA];simp only[Option.bind_some];have hl:r.length=n:=by rw[h.length_eq,length_range]
 rw[if_pos (by rw[length_map];omega),CI h,List.map_map];rfl
theorem zI {n:Nat} (hn:n<=24):lrD [.int (n:Int)]=some ((List.range n).map λ(k:Nat)=>D.int (k:Int)):=by
 show(if inR (n:Int)/\(n:Int)<1000000 then some (jh 0 (n:Int).toNat)else none)=_;rw[if_pos ⟨pA (by omega),by omega⟩,Int.toNat_natCast,tf]
theorem jr:∀r:List Nat,okL (r.map λ(k:Nat)=>D.int (k:Int))=true/\cJ (r.map λ(k:Nat)=>D.int (k:Int))=0
 |[]=>⟨rfl,rfl⟩
 |k::r=>⟨by show(true&&okL _)=true;rw[(jr r).1];rfl,by show max 0 (cJ _)=0;rw[(jr r).2];rfl⟩
theorem pF (neg:Bool) (h2:okE d=true) (h3:dep d<=50) (h4:EJ d d=true) (h1:aU d=false):aF neg d d=some (.bl (!neg)):=by
 unfold aF gL;rw[show(aU d&&aU d&&mU (toV d) (toV d))=false by rw[h1];rfl,if_neg (by decide),h2,h4,decide_eq_true h3,if_pos (by rfl),qw _ h2];cases neg<;>rfl
theorem Gi (neg:Bool) (r:List Nat):aF neg (rowD r) (rowD r)=some (.bl (!neg)):=pF neg (jr r).1 (by show cJ _+1<=50;rw[(jr r).2];decide) rfl rfl
theorem jU (h:L Y=some ds):liG xs L Y=some (.lst ds):=by
 unfold liG orO lsF;have:(xs Y).bind noD=none:=by cases xs Y<;>rfl
 grind
theorem L4 (hn:n<=24) (h:ys Y=some [.int (n:Int)]):orO (lrF ys) zs Y=some ((List.range n).map λ(k:Nat)=>D.int (k:Int)):=by
 have:lrF ys Y=some ((List.range n).map λ(k:Nat)=>D.int (k:Int)):=by
  unfold lrF;rw[h];exact zI hn
 unfold orO;rw[this]
theorem q9 {β:Type} (xs:List β) (p:β->Bool):m6 [.lst (xs.map λx=>.bl (p x))]=some (.bl (xs.any p)):=by
 have e:xs.map (λx=>D.bl (p x))=(xs.map p).map D.bl:=by rw[List.map_map];rfl
 rw[e];unfold m6 un1;simp only[fW,Option.bind_some];rw[l8];simp[List.any_map];rfl
def Wide (ps:List (List Pk)):Prop:=∀p∈ps,∀k∈p,1<=k.2
def Gj (f:List D->Option Sl):Prop:=∀ps:List (List Pk),Valid ps->Wide ps->f [af ps]=some (.deep,.non)
theorem JI (hfl:fl "Mill" "passes"=true):Gj (bj 1 4 (cW fl)):=λps hv hw=>by
 have hs:aq 4 [af ps]=[some (.sh,af ps),none,none,none]:=rfl;have hf:mY fl "passes" (af ps)=some (aA ps):=by simp[mY,af,hfl]
 have L:∃Y',cW fl [some (.sh,af ps),none,none,none]=some (.nx Y'):=by
  unfold cW;refine Gh (xs:=ps) (mk:=tpD) (λi Y=>∃o1,Y=[some (.sh,af ps),o1,none,none]) ?_ ⟨none,rfl⟩ ?_
  ·simp only[bW,lZ,iR,kz,DD,va_a,shAt_0,Option.bind_some,hf];rfl
  ·rintro i p Y hp ⟨o1,rfl⟩;have hpl:p.length<=6:=(hv.p (mem_of_getElem? hp)).2.1;have hm:au [2,3] (jX noV (va 1)) (gTp 2 (aI (gNm 2) (aI (gNm 3) dh))) tQ (aa (aF false) (va 3) (cI 0)) [some (af ps),some (tpD p),none,none]=some (p.map λ_=>.bl false):=by
    refine aB (xs:=p) (mk:=pkD) (out:=λ_=>.bl false) (by simp only[bW,va_a,shAt_1,Option.bind_some];rfl) (λk hk=>?_) (lt_of_le_of_lt hpl (by decide));have h1:¬k.2=0:=by have:=hw p (mem_of_getElem? hp) k hk;omega
    show iL _ _ _ _ (.tup [.str (kd k.1),.int k.2])=_;simp[h1]
   refine⟨_,bG ?_ rfl,⟨some (.sh,tpD p),rfl⟩⟩;simp only[set_cons_succ,set_cons_zero,vw_some,vw_none,vw_nil,trF_a,biF_a,consX_a,nilX_a,lsF_a,hm,map_some,Option.bind_some,q9 p λ_=>false];simp
 obtain⟨Y',e⟩:=L;exact yQ rfl e
def pG (f:List D->Option Sl):Prop:=∀ (r:List Nat) (n:Nat),r.Perm (List.range n)->n<=24->f [rowD r]=some (.deep,.bl true)
theorem CJ (hw:fA w):pG (bj 1 2 (iX w)):=λr n pm hn=>by
 have hs:aq 2 [rowD r]=[some (.sh,rowD r),none]:=rfl;have hl:r.length=n:=by rw[pm.length_eq,length_range]
 have y:seqD (rowD r)=some (r.map λ(k:Nat)=>D.int (k:Int)):=rfl;have hm:au [1] (jX noV (va 0)) (gNm 1) tQ (clF w (ag (va 1) (ag (cI 0) (ag (aa cg (biF bP (ag (va 0) aC)) (cI 1)) aC)))) [some (rowD r),none]=some (r.map λ_=>.bl true):=by
  refine aB (xs:=r) (mk:=λ(k:Nat)=>D.int (k:Int)) (out:=λ_=>.bl true) (by simp only[bW,va_a,shAt_0,Option.bind_some,y]) (λk hk=>?_) (lt_of_le_of_lt (by omega:r.length<=24) (by decide));have h1:=List.mem_range.mp (pm.mem_iff.mp hk);have h2:(0:Int)<=(k:Int):=by omega
  have h3:(k:Int)<=(r.length:Int)-1:=by omega
  simp only[stepF_a,wipe_cons,wipe_nil,gNm_a,tQ_a,set_cons_succ,set_cons_zero,Option.bind_some,if_true,clF_a,consX_a,nilX_a,va_a,shAt_0,shAt_1,cI_a,bin2_a,biF_a,cU,y,length_map,subD_ii,hw (k:Int) 0 ((r.length:Int)-1),valO_some,h2,h3,decide_true];rfl
 have s1:s1F (ag (va 0) aC) [some (rowD r),none]=some ((List.range n).map λ(k:Nat)=>D.int (k:Int)):=by
  show(ag (va 0) aC _).bind cM=_;simp only[consX_a,nilX_a,va_a,shAt_0,Option.bind_some,iP (q8 pm hn)]
 refine ao rfl ?_;rw[hs];unfold iX;have h24:¬ (24:Int)<(r.length:Int):=by omega
 refine bG ?_ (bt (evX_lf ?_ rfl))
 ·simp only[vw_some,vw_none,vw_nil,yJ,notQ_a,trF_a,testB_a,bin2_a,biF_a,consX_a,nilX_a,va_a,shAt_0,qR,Jg,Jf,Option.bind_some,capL_2,DF,yN,show cm (rowD r)=some "list"from rfl,List.any_cons,List.any_nil,yO,truD_bl,cU,y,length_map,pv,asB_bl,h24,decide_false];rfl
 ·simp only[vw_some,vw_none,vw_nil,sY,biF_a,consX_a,nilX_a,lsF_a,hm,map_some,Option.bind_some,iS r λ_=>true,asB_bl];rw[show(r.all λ_=>true)=true by simp];simp only[if_true,bin2_a];rw[jU s1,jU (L4 hn (by simp only[consX_a,nilX_a,biF_a,va_a,shAt_0,Option.bind_some,cU,y,length_map,hl]))];exact Gi false (List.range n)
structure One (ps:List (List Pk)) (l:Lt):Prop where
 s:l.s=1
 t:l.t=0
 w:WordOk ps 0 l.w
@[simp] theorem Gk (a b c d:D):ck (some [a,b,c,d])=some [a,b,c,d]:=fz (show 4<big by decide)
@[simp] theorem Kv (a b c d e f g h i j:D):ck (some [a,b,c,d,e,f,g,h,i,j])=some [a,b,c,d,e,f,g,h,i,j]:=fz (show 10<big by decide)
section
variable {α:Type} {G F:Ev->Option Out} {Y Y':Ev} {out:α->Option Out} {P:α->Prop}
theorem js (h:F Y=some (.nx Y')) (k:∃a,G Y'=out a/\P a):∃a,ae F G Y=out a/\P a:=k.imp λ_ q=>⟨(az h).trans q.1,q.2⟩
theorem ax (h:g Y=some (s,Y')) (k:∃a,G (Y'.set i (some s))=out a/\P a):∃a,ae (ak i g) G Y=out a/\P a:=js (cy h) k
theorem rc (h:c (vw Y)=some false) (k:∃a,G Y=out a/\P a):∃a,ae (ifS c F nxE) G Y=out a/\P a:=js ((eh h).trans rfl) k
theorem CK {b:Bool} (h:c (vw Y)=some b) (k1:∃Y',(if b then F Y else F' Y)=some (.nx Y')/\∃a,G Y'=out a/\P a):∃a,ae (ifS c F F') G Y=out a/\P a:=by
 obtain⟨Y',e,k⟩:=k1;cases b with
 |true=>exact js ((gQ h).trans e) k
 |false=>exact js ((eh h).trans e) k
theorem re {v:Nat->Int} (I:Nat->Ev->Prop) (hJ:J (shv Y)=some ((List.range n).map λi=>D.int (v i))) (h0:I 0 Y) (hs:∀ (i:Nat) (Y:Ev),i<n->I i Y->∃Y',F (Y.set s (some (.sh,.int (v i))))=some (.nx Y')/\I (i+1) Y') (k:∀Y',I n Y'->∃a,G Y'=out a/\P a):∃a,ae (frF J (eNm s) F) G Y=out a/\P a:=by
 obtain⟨Y',e,i⟩:=uR (s:=s) (F:=F) I hJ h0 hs;exact js e (k _ i)
theorem uW {β:Type} {xs:List β} {mk} (I:Nat->Ev->Prop) (hJ:J (shv Y)=some (xs.map mk)) (h0:I 0 Y) (hs:∀ (i:Nat) (x:β) (Y:Ev),xs[i]?=some x->I i Y->∃Y',(tg (mk x) Y).bind F=some (.nx Y')/\I (i+1) Y') (k:∀Y',I xs.length Y'->∃a,G Y'=out a/\P a):∃a,ae (frF J tg F) G Y=out a/\P a:=by
 obtain⟨Y',e,i⟩:=gC (tg:=tg) (F:=F) I hJ h0 (λi d Y hd hi=>by
  rw[getElem?_map]at hd;cases hx:xs[i]? with
  |none=>rw[hx]at hd;cases hd
  |some x=>rw[hx]at hd;cases hd;exact hs i x Y hx hi)
 rw[length_map]at i;exact js e (k _ i)
theorem jV {P:Ev->Prop} (h:P Y):∃a,nxE Y=some (.nx a)/\P a:=⟨Y,rfl,h⟩
theorem mj {P:Ev->Prop} (h:F' Y=some (.nx Y')) (p:P Y'):∃a,ae F' nxE Y=some (.nx a)/\P a:=js h (jV p)
end
end L2
namespace HD
open PySem PySem.W PyProof.Rows
abbrev S0 (w:World) (os:OsState):Shared:=⟨boot_heap w.params,Array.mk [],boot_drawn,boot_toks,os⟩
theorem left_of {Ya:World->α} {F:World->OsState->Shared} (o:∀w:World,(fencedOpening treeTable p w N).map (λs=>(s.heap,s.gens,s.drawn,s.toks))=some (boot_heap w.params,Array.mk [],boot_drawn,boot_toks)) (sz:∀w:World,(boot_heap w.params).isNs mainGlobals=true/\(boot_heap w.params).objs.size=m₀/\(boot_heap w.params).nsMap mainGlobals "__annotations__"=ann) (rn:∀w os,topRun treeTable p w m₀ ann M (S0 w os) (topStub p)=some (F w os)) (le:M<=N) (lk:∀w os,((staticsOk (importedModules p.main.body) (boot_heap w.params) (F w os).heap&&namesBound p (F w os).heap&&gensDone (F w os)&&laidKept (boot_heap w.params) (F w os).heap),openSeen q loose (importedModules p.main.body) Xt true (F w os),Yf (F w os))=(true,openGood q loose,Ya w)):
  LeftO p q loose Xt Yf Ya N:=by
 intro w
 obtain⟨s,e,e'⟩:=Option.map_eq_some_iff.mp (o w)
 cases s with
 |mk h gs d k os=>
 simp only[Prod.mk.injEq]at e'
 obtain⟨a1,a2,a3,a4⟩:=e'
 subst a1 a2 a3 a4
 obtain⟨z1,z2,z3⟩:=sz w
 have l:=lk w os
 simp only[Prod.mk.injEq]at l
 obtain⟨l1,l2,l3⟩:=l
 have r:=topRun_mono (N-M) _ _ _ _ (rn w os)
 rw[show M+(N-M)=N from Nat.add_sub_cancel' le]at r
 have t:topFrom treeTable p w N (S0 w os)=some (F w os):=by
  unfold topFrom;dsimp only;rw[z2,z3];rw[r];simp only[z1];show(match(staticsOk (importedModules p.main.body) (boot_heap w.params) (F w os).heap&&namesBound p (F w os).heap&&gensDone (F w os)&&laidKept (boot_heap w.params) (F w os).heap)with|true=>_|false=>_)=_;rw[l1]
 unfold openEnds
 rw[e]
 show Option.map _ (topFrom treeTable p w N (S0 w os))=_
 rw[t]
 exact congrArg some (Prod.ext l2 l3)
abbrev JJ:=@PySem.W.Fast.tw10110043849684766642
abbrev JK:=@PySem.W.Fast.tw14364793385576792824
abbrev zJ:=@PySem.W.Fast.tw12563942051412417395
theorem JL:@segRunT=@JJ:=PySem.W.Fast.te10110043849684766642
theorem JM:@treeTable=@JK:=PySem.W.Fast.te14364793385576792824
theorem CL:@execs=@zJ:=PySem.W.Fast.te12563942051412417395
def put:List Obj->Nat->BT->BT
 |[],_,t=>t
 |o::l,i,t=>put l (i+1) (t.ins i o)
def toT (s:Shared):SharedT:=⟨put s.heap.objs.toList 0 .nil,s.heap.objs.size,s.heap.life,s.gens,s.drawn,s.toks,s.os⟩
def st1 (d:Shared):Option (Shared×Thread)->Shared
 |some (s,_)=>s
 |none=>d
def st2 (d:Shared):Option (Flow×Shared×Code×Pos)->Shared
 |some (_,s,_)=>s
 |none=>d
def st3 (d:SharedT):Option (Flow×SharedT×Code×Pos)->SharedT
 |some (_,s,_)=>s
 |none=>d
theorem of1 (h:o.map (·.2)=some t):o=some (st1 d o,t):=by
 cases o with
 |none=>cases h
 |some z=>cases h;rfl
theorem of2 (h:o.map (λr=>(r.1,r.2.2))=some (f,c,q)):o=some (f,st2 d o,c,q):=by
 cases o with
 |none=>cases h
 |some z=>obtain⟨a,b,x,y⟩:=z;cases h;rfl
theorem of3 (h:o.map (λr=>(r.1,r.2.2))=some (f,c,q)):o=some (f,st3 d o,c,q):=by
 cases o with
 |none=>cases h
 |some z=>obtain⟨a,b,x,y⟩:=z;cases h;rfl
section
variable (p:Program) (m₀:Nat) (ann:Option Value) (env:Env) (q pa pb:Pos) (k1 k2 k3:Nat)
abbrev cd:Code:=.body (behindTheImports p) env
def A (w:World) (os:OsState):Option (Shared×Thread):=topGo treeTable p w m₀ ann k1 (S0 w os) (topStub p)
def SA (w:World) (os:OsState):Shared:=st1 (S0 w os) (A p m₀ ann k1 w os)
def B (w:World) (os:OsState):Option (Flow×Shared×Code×Pos):=segRun treeTable p w m₀ ann 1 k2 (SA p m₀ ann k1 w os) (blockOf (behindTheImports p) env (cd p env) pa [topFrame q])
def SB (w:World) (os:OsState):Shared:=st2 (S0 w os) (B p m₀ ann env q pa k1 k2 w os)
def C (w:World) (os:OsState):Option (Flow×SharedT×Code×Pos):=JJ JK p w m₀ ann 1 k3 (toT (SB p m₀ ann env q pa k1 k2 w os)) ⟨(zJ (behindTheImports p) env).wrap doneF deadEnd id id,cd p env,pb,[topFrame q]⟩
theorem JN (w:World) (os:OsState):C p m₀ ann env q pa pb k1 k2 k3 w os=segRunT treeTable p w m₀ ann 1 k3 (toT (SB p m₀ ann env q pa k1 k2 w os)) (piecesOf (behindTheImports p) env (cd p env) pb [topFrame q]):=by
 unfold C piecesOf;rw[JL,JM,CL]
def SC (w:World) (os:OsState):SharedT:=st3 (toT (S0 w os)) (C p m₀ ann env q pa pb k1 k2 k3 w os)
end
theorem run_of (hA:∀w os,(A p m₀ ann k1 w os).map (·.2)=some ⟨denote treeTable (cd p env),cd p env,pa,[topFrame q]⟩) (hB:∀w os,(B p m₀ ann env q pa k1 k2 w os).map (λr=>(r.1,r.2.2))=some (.next,cd p env,pb)) (hT:∀w os,(toT (SB p m₀ ann env q pa k1 k2 w os)).abs=SB p m₀ ann env q pa k1 k2 w os) (hC:∀w os,(C p m₀ ann env q pa pb k1 k2 k3 w os).map (λr=>(r.1,r.2.2))=some (.next,cd p env,pc)) (hF:∀w s,topRun treeTable p w m₀ ann k4 s ⟨doneF .next,cd p env,pc,[topFrame q]⟩=some s) (w:World) (os:OsState):
  topRun treeTable p w m₀ ann (k1+(k2+(k3+k4))) (S0 w os) (topStub p)=some (SC p m₀ ann env q pa pb k1 k2 k3 w os).abs:=by
 have a:=of1 (d:=S0 w os) (hA w os)
 have b:=of2 (d:=S0 w os) (hB w os)
 have c:=of3 (d:=toT (S0 w os)) (hC w os)
 rw[JN]at c
 have c:=segRun_of c
 rw[hT w os]at c
 rw[<-JN]at c
 refine go_top a (piece_block b ?_)
 have k:=piece_app (rest:=[]) c (piece_nil (hF w _))
 rw[List.append_nil]at k
 exact k
end HD
namespace L2
open PySem PySem.Spec PyProof.Rows
abbrev dp (d:D):Option Sl:=some (.deep,d)
abbrev sn (d:D):Option Sl:=some (.sh,d)
abbrev iN (n:Nat):D:=.int (n:Int)
abbrev Fn:=List D->Option Sl
abbrev Zf:=List D->Option Str
abbrev Fv:=Vv->Option D
abbrev Fx:=Vv->Option (List D)
abbrev evV (R:Fv):=evX R noV noV
abbrev evC (f:Fn) (xs:Fx):=evX (clF f xs) noV (fCl f xs)
abbrev evE:=evX (lsF (dpF aC)) (dpF aC) (fLs aC)
abbrev jR (xs:Fx):=jX (r1F xs) (biF noD xs)
abbrev rtF (g:Ev->Option (Sl×Ev)):=ae (fQ g) nxE
abbrev x1 (a:Fv):Fx:=ag a aC
abbrev x2 (a b:Fv):Fx:=ag a (x1 b)
abbrev x3 (a b c:Fv):Fx:=ag a (x2 b c)
abbrev x4 (a b c d:Fv):Fx:=ag a (x3 b c d)
abbrev x5 (a b c d e:Fv):Fx:=ag a (x4 b c d e)
abbrev x6 (a b c d e f:Fv):Fx:=ag a (x5 b c d e f)
abbrev lnF (a:Fv):Fv:=biF bP (x1 a)
theorem tr {α:Type} {P:α->Prop} {f g} (h:P g) (e:f=g:=by kernel_rfl):P f:=e▸h
theorem zK:x1 a Y=ag a aC Y:=rfl
theorem L5:x2 a b Y=ag a (x1 b) Y:=rfl
theorem L6:x3 a b c Y=ag a (x2 b c) Y:=rfl
noncomputable def sB0:=And.intro @vw_o (And.intro @vw_nil (And.intro @vw_some (And.intro @vw_none (And.intro @map_some.{0,0} (And.intro @Option.map_none.{0,0} (And.intro @set_cons_succ.{0} (And.intro @set_cons_zero.{0} (And.intro @consX_a (And.intro @nilX_a (And.intro @va_a (And.intro @shAt_s (And.intro @shAt_0 (And.intro @shAt_1 (And.intro @Option.bind_some.{0,0} (And.intro @bin2_a (And.intro @biF_a (And.intro @clF_a (And.intro @fCl_a (And.intro @cI_a (And.intro @cS_a (And.intro @testB_a (And.intro @notQ_a (And.intro @trF_a (And.intro @andQ_a (And.intro @valO_some (And.intro @asB_bl (And.intro @truD_bl (And.intro @addD_ii (And.intro @subD_ii (And.intro @lsF_a (And.intro @dpF_a (And.intro @capL_1 (And.intro @capL_2 (And.intro @stepF_a (And.intro @wipe_cons (And.intro @wipe_nil (And.intro @gNm_a (And.intro @tQ_a (@if_true.{1})))))))))))))))))))))))))))))))))))))))
theorem sB:type_of%sB0:=sB0
end L2
namespace K20
open PySem PySem.Spec PyProof.Rows L2
theorem Gm (h:j9 Y j=none):evM j g Y=g Y:=by
 unfold evM orO mvE;rw[h];rfl
theorem evM_lf {R L Sp} (h0:j9 Y j=none) (h:R (vw Y)=some d) (f:lfD d=true):evM j (evX R L Sp) Y=some ((.deep,d),Y):=(Gm h0).trans (evX_lf h f)
theorem zL {α:Type} (k:α->List Int) (L:List α):(L.mergeSort λa b=>!HT.lexLt (k b) (k a)).Pairwise λa b=>HT.lexLt (k b) (k a)=false:=by
 refine(List.pairwise_mergeSort (le:=λa b=>!HT.lexLt (k b) (k a)) (λa b c h1 h2=>?_) (λa b=>?_) L).imp λh=>by simpa using h
 ·simp only[Bool.not_eq_true']at h1 h2⊢;cases e:HT.lexLt (k c) (k a)with
  |false=>rfl
  |true=>rw[lN _ _ _ e h1]at h2;cases h2
 ·cases e:HT.lexLt (k b) (k a)with
  |false=>rfl
  |true=>rw[pf _ _ e];rfl
theorem wo {α:Type} {g} (hg:∀a,∃ds,g a=.tup ds) {L} (h64:L.length<64) (h:fY (L.map g)):
  ∃T:List α,T.Perm L/\T.Pairwise (λa b=>HT.lexLt (flt (g b)) (flt (g a))=false)/\cM [.lst (L.map g)]=some (T.map g):=by
 refine⟨L.mergeSort λa b=>!HT.lexLt (flt (g b)) (flt (g a)),List.mergeSort_perm _ _,zL (λa=>flt (g a)) L,?_⟩
 have e:mZ (L.map g)=(L.mergeSort λa b=>!HT.lexLt (flt (g b)) (flt (g a))).map g:=(ph h ((List.mergeSort_perm _ _).map g) (List.pairwise_map.mpr (zL (λa=>flt (g a)) L))).symm
 rw[<-e]
 cases L with
 |nil=>
  refine iP ?_;show(if([]:List Int).length<64 then some ((jn []).map D.int)else none)=_;rw[if_pos (by decide)];rw[show jn []=[]from List.mergeSort_nil,show mZ (List.map g [])=[]from List.mergeSort_nil];rfl
 |cons a L=>
  refine BO ?_ ?_
  ·obtain⟨ds,e⟩:=hg a;show(dA ((a::L).map g)).bind _=none;rw[List.map_cons,e];rfl
  ·show(if((a::L).map g).length<64/\fY ((a::L).map g)then some (mZ ((a::L).map g))else none)=_;rw[if_pos ⟨by rw[length_map];exact h64,h⟩]
abbrev Sd:=Int×Int
def sdD (p:Sd):D:=.tup [.int p.1,.int p.2]
theorem CM (h:S.length<64):∃T:List Sd,T.Perm S/\T.Pairwise (λa b=>HT.lexLt [b.1,b.2] [a.1,a.2]=false)/\cM [.lst (S.map sdD)]=some (T.map sdD):=
 wo (g:=sdD) (λ_=>⟨_,rfl⟩) h ⟨[none,none],by decide,λd hd=>by
  obtain⟨p,_,rfl⟩:=List.mem_map.mp hd;exact⟨[p.1,p.2],rfl⟩⟩
theorem lx2 (a b c d:Int):HT.lexLt [a,b] [c,d]=decide (a<c\/(a=c/\b<d)):=by
 rw[HT.lexLt_cons,HT.lexLt_cons];by_cases h:a=c
 ·rw[if_pos h];by_cases g:b=d
  ·rw[if_pos g];refine(decide_eq_false ?_).symm;omega
  ·rw[if_neg g];by_cases k:b<d
   ·rw[decide_eq_true k];exact(decide_eq_true (.inr ⟨h,k⟩)).symm
   ·rw[decide_eq_false k];exact(decide_eq_false (by omega)).symm
 grind
def oi (W:List (List Nat)) (p:List Pk):List (List Nat):=(List.range p.length).flatMap λk=>W.map λw=>w++[k]
def wds (rs:List (List Pk)):List (List Nat):=rs.foldl oi [[]]
theorem gc (rs:List (List Pk)) (p:List Pk):wds (rs++[p])=oi (wds rs) p:=by unfold wds;rw[List.foldl_append];rfl
def pkg (p:List Pk) (k:Nat):Pk:=p.getD k (true,0)
def b8 (n k:Nat) (pk:Pk) (c:Sd):Sd:=((k:Int)*(n:Int)+(if pk.1 then c.1 else(n:Int)-1-c.1),if pk.1 then c.2 else -c.2)
def pl:Nat->List (List Pk)->List Nat->Sd->Sd
 |_,[],_,c=>c
 |_,_::_,[],c=>c
 |n,p::rs,k::w,c=>pl (n*p.length) rs w (b8 n k (pkg p k) c)
theorem kA:∀ {rs:List (List Pk)} {w:List Nat} (n:Nat) (c:Sd) (p:List Pk) (k:Nat),w.length=rs.length->pl n (rs++[p]) (w++[k]) c=b8 (n*prod rs) k (pkg p k) (pl n rs w c)
 |[],[],n,c,p,k,_=>by show b8 n k _ c=b8 (n*1) k _ c;rw[Nat.mul_one]
 |[],_::_,_,_,_,_,h=>by cases h
 |_::_,[],_,_,_,_,h=>by cases h
 |q::rs,j::w,n,c,p,k,h=>by
  show pl (n*q.length) (rs++[p]) (w++[k]) (b8 n j (pkg q j) c)=b8 (n*(q.length*prod rs)) k (pkg p k) (pl (n*q.length) rs w (b8 n j (pkg q j) c));rw[kA _ _ _ _ (Nat.succ.inj h),Nat.mul_assoc]
def iY (s:Int):List (List Pk)->List Nat->Bool
 |[],_=>true
 |_::_,[]=>true
 |p::rs,k::w=>decide (s<=(pkg p k).2)&&iY s rs w
theorem mm:∀ {rs:List (List Pk)} {w:List Nat} (p:List Pk) (k:Nat),w.length=rs.length->iY s (rs++[p]) (w++[k])=(iY s rs w&&decide (s<=(pkg p k).2))
 |[],[],p,k,_=>by show(decide _&&true)=(true&&_);rw[Bool.and_true,Bool.true_and]
 |[],_::_,_,_,h=>by cases h
 |_::_,[],_,_,h=>by cases h
 |q::rs,j::w,p,k,h=>by
  show(decide _&&iY s (rs++[p]) (w++[k]))=((decide _&&iY s rs w)&&_);rw[mm _ _ (Nat.succ.inj h),Bool.and_assoc]
theorem uX {α:Type} {P:List α->Prop} (h0:P []) (h1:∀l a,P l->P (l++[a])) (l:List α):P l:=by
 have:∀l:List α,P l.reverse:=λl=>by
  induction l with
  |nil=>exact h0
  |cons a l ih=>rw[List.reverse_cons];exact h1 _ _ ih
 have z:=this l.reverse;grind
theorem gE:∀ (rs:List (List Pk)),∀w∈wds rs,w.length=rs.length/\∀q∈w.zip rs,q.1<q.2.length:=by
 refine uX (λw hw=>?_) λrs p ih w hw=>?_
 ·cases mem_singleton.mp hw;exact⟨rfl,λ_ h=>nomatch h⟩
 ·rw[gc]at hw;obtain⟨k,hk,hw⟩:=List.mem_flatMap.mp hw;obtain⟨v,hv,rfl⟩:=List.mem_map.mp hw;obtain⟨h1,h2⟩:=ih v hv;refine⟨by rw[length_append,length_append,h1];rfl,λq hq=>?_⟩;rw[List.zip_append h1]at hq;rcases mem_append.mp hq with hq|hq
  ·exact h2 q hq
  ·cases mem_singleton.mp hq;exact List.mem_range.mp hk
theorem CN:∀ (rs:List (List Pk)),(wds rs).length=prod rs:=by
 refine uX rfl λrs p ih=>?_;rw[gc,cV,<-ih];unfold oi;rw[List.length_flatMap];have:∀l:List Nat,(l.map λk=>((wds rs).map λw=>w++[k]).length).sum=(wds rs).length*l.length:=λl=>by
  induction l with
  |nil=>rfl
  |cons a l ih=>rw[List.map_cons,List.sum_cons,ih,length_map,length_cons,Nat.mul_succ,Nat.add_comm]
 grind
def zM (s:Int) (n:Nat) (p:List Pk) (S:List Sd):List Sd:=(List.range p.length).flatMap λk=>if s<=(pkg p k).2 then S.map (b8 n k (pkg p k))else[]
def sds (s:Int) (n:Nat) (rs:List (List Pk)):List Sd:=((wds rs).filter (iY s rs)).map λw=>pl n rs w ((n:Int)-1,1)
theorem zN (s:Int) (n:Nat) (rs:List (List Pk)) (p:List Pk):sds s n (rs++[p])=zM s (n*prod rs) p (sds s n rs):=by
 unfold sds zM;rw[gc];unfold oi;rw[List.filter_flatMap,List.map_flatMap];refine congrArg (λf=>List.flatMap f (List.range p.length)) (funext λk=>?_);have e:((wds rs).map λw=>w++[k]).filter (iY s (rs++[p]))=if s<=(pkg p k).2 then((wds rs).filter (iY s rs)).map (λw=>w++[k])else[]:=by
  rw[List.filter_map];by_cases h:s<=(pkg p k).2
  ·rw[if_pos h];refine congrArg _ (List.filter_congr λw hw=>?_);show iY s (rs++[p]) (w++[k])=_;rw[mm _ _ (gE rs w hw).1,decide_eq_true h,Bool.and_true]
  ·rw[if_neg h];have:(wds rs).filter (iY s (rs++[p])∘λw=>w++[k])=[]:=List.filter_eq_nil_iff.mpr λw hw=>by
    show¬iY s (rs++[p]) (w++[k])=true;rw[mm _ _ (gE rs w hw).1,decide_eq_false h,Bool.and_false];decide
   rw[this];rfl
 rw[e];by_cases h:s<=(pkg p k).2
 ·rw[if_pos h,if_pos h,List.map_map,List.map_map];exact List.map_congr_left λw hw=>kA _ _ _ _ (gE rs w (List.mem_filter.mp hw).1).1
 grind
theorem CO (s:Int) (n:Nat) (rs:List (List Pk)):(sds s n rs).length<=prod rs:=by
 unfold sds;rw[length_map,<-CN];grind
end K20
namespace K20
open PySem PySem.Spec PyProof.Rows L2
def dg:List (List Pk)->Nat->List Nat
 |[],_=>[]
 |p::rs,m=>m%p.length::dg rs (m/p.length)
theorem zO:∀ (rs:List (List Pk)) (m:Nat),(dg rs m).length=rs.length
 |[],_=>rfl
 |p::rs,m=>by show(dg rs _).length+1=_;rw[zO rs];rfl
theorem pH:∀ (rs:List (List Pk)) (p:List Pk) (m:Nat),dg (rs++[p]) m=dg rs m++[m/prod rs%p.length]
 |[],p,m=>by show[m%p.length]=[m/1%p.length];rw[Nat.div_one]
 |q::rs,p,m=>by
  show m%q.length::dg (rs++[p]) (m/q.length)=m%q.length::(dg rs (m/q.length)++[m/(q.length*prod rs)%p.length]);rw[pH rs p,Nat.div_div_eq_div_mul]
theorem zP:∀ (rs:List (List Pk)) (k j:Nat),(∀p∈rs,0<p.length)->dg rs (k*prod rs+j)=dg rs j
 |[],_,_,_=>rfl
 |q::rs,k,j,h=>by
  have hq:=h q mem_cons_self;have e0:k*(q.length*prod rs)+j=j+q.length*(k*prod rs):=by
   rw[Nat.add_comm,<-Nat.mul_assoc,Nat.mul_comm k,Nat.mul_assoc]
  have e1:(k*(q.length*prod rs)+j)%q.length=j%q.length:=by rw[e0,Nat.add_mul_mod_self_left]
  have e2:(k*(q.length*prod rs)+j)/q.length=k*prod rs+j/q.length:=by rw[e0,Nat.add_mul_div_left _ _ hq,Nat.add_comm]
  show(k*(q.length*prod rs)+j)%q.length::dg rs ((k*(q.length*prod rs)+j)/q.length)=j%q.length::dg rs (j/q.length);rw[e1,e2,zP rs k _ λp hp=>h p (mem_cons_of_mem _ hp)]
theorem jt {α:Type} (f:Nat->α) (n:Nat):∀L:Nat,(List.range L).flatMap (λk=>(List.range n).map λj=>f (k*n+j))=(List.range (L*n)).map f
 |0=>by simp
 |L+1=>by
  rw[List.range_succ,List.flatMap_append,jt f n L,Nat.succ_mul,List.range_add,List.map_append,List.map_map];simp
theorem uY {α β:Type} {f g:α->List β}:∀ {l:List α},(∀a∈l,(f a).Perm (g a))->(l.flatMap f).Perm (l.flatMap g)
 |[],_=>.refl _
 |a::l,h=>by
  rw[List.flatMap_cons,List.flatMap_cons];exact(h a mem_cons_self).append (uY λb hb=>h b (mem_cons_of_mem _ hb))
theorem rg {α:Type} {P:List α->Prop} (h0:P []) (h1:∀l a,P l->P (l++[a])) (l:List α):P l:=by
 have:∀n (l:List α),l.length=n->P l:=λn=>by
  induction n with
  |zero=>intro l h;rw[List.eq_nil_of_length_eq_zero h];exact h0
  |succ n ih=>
   intro l h;have hn:l≠[]:=by intro e;rw[e]at h;cases h
   rw[<-List.dropLast_concat_getLast hn];exact h1 _ _ (ih _ (by rw[List.length_dropLast];omega))
 exact this _ l rfl
theorem zQ (rs:List (List Pk)):(∀p∈rs,0<p.length)->wds rs=(List.range (prod rs)).map (dg rs):=by
 refine rg (P:=λrs=>(∀p∈rs,0<p.length)->wds rs=(List.range (prod rs)).map (dg rs)) (λ_=>rfl) (λrs p ih h=>?_) rs;have hr:∀q∈rs,0<q.length:=λq hq=>h q (mem_append_left _ hq);have hp:0<p.length:=h p (mem_append_right _ mem_cons_self);rw[gc,ih hr,cV,Nat.mul_comm,<-jt (dg (rs++[p])) (prod rs) p.length];unfold oi;rw[List.flatMap_def,List.flatMap_def];refine congrArg List.flatten (List.map_congr_left λk hk=>?_);rw[List.map_map];refine List.map_congr_left λj hj=>?_;have hk:=List.mem_range.mp hk;have hj:=List.mem_range.mp hj;show dg rs j++[k]=_;rw[pH,zP rs k j hr];have e:(k*prod rs+j)/prod rs=k:=by
  rw[Nat.add_comm,Nat.add_mul_div_right _ _ (by omega),Nat.div_eq_of_lt hj,Nat.zero_add]
 rw[e,Nat.mod_eq_of_lt hk]
abbrev p1 (rs:List (List Pk)) (w:List Nat):Sd:=pl 1 rs w (0,1)
theorem zR (b:Bool) (n k:Nat):((List.range n).map λ(j:Nat)=>((k:Int)*(n:Int)+(if b then(j:Int)else(n:Int)-1-(j:Int)))).Perm ((List.range n).map λ(j:Nat)=>((k*n+j:Nat):Int)):=by
 cases b with
 |true=>
  refine List.Perm.of_eq (List.map_congr_left λj _=>?_);simp
 |false=>
  have e:((List.range n).map λ(j:Nat)=>((k:Int)*(n:Int)+(if false=true then(j:Int)else(n:Int)-1-(j:Int))))=((List.range n).map λ(j:Nat)=>((k*n+j:Nat):Int)).reverse:=by
   apply List.ext_getElem
   ·simp
   ·intro i h1 h2;simp only[length_map,length_range]at h1;rw[List.getElem_reverse];simp only[List.getElem_map,List.getElem_range,length_map,length_range];rw[if_neg (by decide)];have:=Int.natCast_mul k n;omega
  rw[e];exact List.reverse_perm _
theorem tw (rs:List (List Pk)):(∀p∈rs,0<p.length)->((wds rs).map λw=>(p1 rs w).1).Perm ((List.range (prod rs)).map λ(i:Nat)=>(i:Int)):=by
 refine rg (P:=λrs=>(∀p∈rs,0<p.length)->((wds rs).map λw=>(p1 rs w).1).Perm ((List.range (prod rs)).map λ(i:Nat)=>(i:Int))) (λ_=>.refl _) (λrs p ih h=>?_) rs;have hr:∀q∈rs,0<q.length:=λq hq=>h q (mem_append_left _ hq);rw[gc,cV,Nat.mul_comm,<-jt (λ(i:Nat)=>(i:Int)) (prod rs) p.length];unfold oi;rw[List.map_flatMap];refine uY λk hk=>?_;rw[List.map_map];have e:List.map ((λw=>(p1 (rs++[p]) w).1)∘λw=>w++[k]) (wds rs)=((wds rs).map λw=>(p1 rs w).1).map λc=>((k:Int)*(prod rs:Int)+(if(pkg p k).1 then c else(prod rs:Int)-1-c)):=by
  rw[List.map_map];refine List.map_congr_left λw hw=>?_;show(pl 1 (rs++[p]) (w++[k]) (0,1)).1=_;rw[kA 1 (0,1) p k (gE rs w hw).1,Nat.one_mul];rfl
 rw[e];refine((ih hr).map _).trans ?_;rw[List.map_map];exact zR (pkg p k).1 (prod rs) k
theorem uZ:∀ (rs:List (List Pk)) (w:List Nat),w.length=rs.length->(∀q∈w.zip rs,q.1<q.2.length)->(∀p∈rs,∀a∈p,s<=a.2)->iY s rs w=true
 |[],_,_,_,_=>rfl
 |_::_,[],h,_,_=>by cases h
 |p::rs,k::w,h,hz,hp=>by
  have h1:=hz (k,p) (by rw[List.zip_cons_cons];exact mem_cons_self);have e:pkg p k∈p:=by
   unfold pkg;rw[List.getD_eq_getElem?_getD,getElem?_eq_getElem h1];exact List.getElem_mem h1
  show(decide (s<=(pkg p k).2)&&iY s rs w)=true;rw[decide_eq_true (hp p mem_cons_self _ e),uZ rs w (Nat.succ.inj h) (λq hq=>hz q (by rw[List.zip_cons_cons];exact mem_cons_of_mem _ hq)) λq hq=>hp q (mem_cons_of_mem _ hq)];rfl
def tol (ps:List (List Pk)):List Sd:=(List.range (prod ps)).map λm=>p1 ps (dg ps m)
theorem CP (h:∀p∈ps,0<p.length) (hw:∀p∈ps,∀a∈p,(1:Int)<=a.2):sds 1 1 ps=tol ps:=by
 have e:(wds ps).filter (iY 1 ps)=wds ps:=List.filter_eq_self.mpr λw hm=>uZ ps w (gE ps w hm).1 (gE ps w hm).2 hw;unfold sds tol;rw[e,zQ ps h,List.map_map];rfl
theorem oj (h:∀p∈ps,0<p.length):((tol ps).map (·.1)).Perm ((List.range (prod ps)).map λ(i:Nat)=>(i:Int)):=by
 have:=tw ps h;rw[zQ ps h,List.map_map]at this;unfold tol;rw[List.map_map];exact this
theorem tz (h:∀p∈ps,0<p.length) {T:List Sd} (h1:T.Perm (tol ps)) (h2:T.Pairwise λa b=>HT.lexLt [b.1,b.2] [a.1,a.2]=false):T.map (·.1)=(List.range (prod ps)).map λ(i:Nat)=>(i:Int):=by
 refine List.Perm.eq_of_pairwise (le:=λa b:Int=>a<=b) (λa b _ _ x y=>Int.le_antisymm x y) (List.pairwise_map.mpr (h2.imp λ{a b} z=>?_)) ?_ ((h1.map _).trans (oj h))
 ·rw[lx2]at z;have z:=of_decide_eq_false z;omega
 ·refine List.pairwise_map.mpr ((List.pairwise_lt_range).imp λ{a b} z=>?_);omega
theorem om (h:∀p∈ps,0<p.length):((tol ps).map (·.1)).Nodup:=by
 refine(oj h).nodup_iff.mpr ?_;refine List.pairwise_map.mpr ((List.pairwise_lt_range).imp λ{a b} z=>?_);omega
end K20
namespace K20
def nxt (S:List Int) (s:Nat) (up:Bool):Nat:=if(up==decide (S.getD s 0=1))=true then s else s+1
def pm:Nat->List Nat->List (List Nat)
 |0,_=>[[]]
 |n+1,L=>(List.range L.length).flatMap λp=>(pm n (L.eraseIdx p)).map λτ=>L.getD p 0::τ
theorem iB:∀ {L:List Nat} {p:Nat},p<L.length->(L.getD p 0::L.eraseIdx p).Perm L
 |[],_,h=>absurd h (by simp)
 |a::L,0,_=>.refl _
 |a::L,p+1,h=>by
  show(L.getD p 0::a::L.eraseIdx p).Perm (a::L);exact(List.Perm.swap _ _ _).trans ((iB (Nat.lt_of_succ_lt_succ h)).cons a)
theorem jW {α:Type}:∀ {l m:List α},l.Nodup->m.Nodup->(∀a,a∈l↔a∈m)->l.Perm m
 |[],m,_,_,h=>by
  cases m with
  |nil=>exact .refl _
  |cons a m=>exact absurd ((h a).mpr mem_cons_self) (by simp)
 |a::l,m,hl,hm,h=>by
  obtain⟨s,t,rfl⟩:=List.append_of_mem ((h a).mp mem_cons_self);obtain⟨h1,h2⟩:=List.nodup_cons.mp hl;have p1:(s++a::t).Perm (a::(s++t)):=List.perm_middle;obtain⟨h3,h4⟩:=List.nodup_cons.mp (p1.nodup_iff.mp hm);refine((jW h2 h4 λb=>?_).cons a).trans p1.symm;constructor
  ·intro hb;rcases mem_cons.mp (p1.mem_iff.mp ((h b).mp (mem_cons_of_mem _ hb)))with rfl|hb'
   ·exact absurd hb h1
   ·exact hb'
  ·intro hb;rcases mem_cons.mp ((h b).mpr (p1.mem_iff.mpr (mem_cons_of_mem _ hb)))with rfl|hb'
   ·exact absurd hb h3
   ·exact hb'
end K20
namespace K20
def W (S:List Int):Nat->Nat->Nat->Nat
 |0,_,_=>1
 |l+1,s,b=>((List.range (l+1)).map λp=>if nxt S s (decide (b<=p))<S.length then W S l (nxt S s (decide (b<=p))) p else 0).sum
theorem zS:∀ {L:List Nat} {x p:Nat},L.Pairwise (·<·)->x ∉ L->p<L.length->(x<L.getD p 0↔L.countP (λz=>decide (z<x))<=p)
 |[],x,p,_,_,h=>absurd h (by simp)
 |a::L,x,p,hs,hx,h=>by
  obtain⟨h1,h2⟩:=List.pairwise_cons.mp hs;have hxa:x≠a:=λe=>hx (e▸mem_cons_self);have hxL:x ∉ L:=λe=>hx (mem_cons_of_mem _ e);rw[List.countP_cons];by_cases c:a<x
  ·rw[if_pos (decide_eq_true c)];cases p with
   |zero=>
    show x<a↔_;omega
   |succ p=>
    show x<L.getD p 0↔_;rw[zS h2 hxL (Nat.lt_of_succ_lt_succ h)];omega
  ·rw[if_neg (by simpa using c)];have e:L.countP (λz=>decide (z<x))=0:=List.countP_eq_zero.mpr λz hz=>by
    have:=h1 z hz;simp only[decide_eq_true_eq];omega
   rw[e];cases p with
   |zero=>show x<a↔_;omega
   |succ p=>
    show x<L.getD p 0↔_;have hp:=Nat.lt_of_succ_lt_succ h;have:=h1 (L.getD p 0) (by rw[List.getD_eq_getElem?_getD,getElem?_eq_getElem hp];exact List.getElem_mem hp);omega
theorem zT:∀ {L:List Nat} {p:Nat},L.Pairwise (·<·)->p<L.length->(L.eraseIdx p).countP (λz=>decide (z<L.getD p 0))=p
 |[],p,_,h=>absurd h (by simp)
 |a::L,p,hs,h=>by
  obtain⟨h1,h2⟩:=List.pairwise_cons.mp hs;cases p with
  |zero=>
   show L.countP (λz=>decide (z<a))=0;exact List.countP_eq_zero.mpr λz hz=>by
    have:=h1 z hz;simp only[decide_eq_true_eq];omega
  |succ p=>
   have hp:=Nat.lt_of_succ_lt_succ h;have:=h1 (L.getD p 0) (by rw[List.getD_eq_getElem?_getD,getElem?_eq_getElem hp];exact List.getElem_mem hp);show(a::L.eraseIdx p).countP (λz=>decide (z<L.getD p 0))=p+1;rw[List.countP_cons,zT h2 hp,if_pos (decide_eq_true this)]
theorem Gn {L:List Nat} (hs:L.Pairwise (·<·)) (h:p<L.length):L.getD p 0 ∉ L.eraseIdx p:=by
 have hn:L.Nodup:=hs.imp λh=>Nat.ne_of_lt h;have:=(iB h).nodup_iff.mpr hn;grind
end K20
namespace K20
open PySem PySem.Spec PyProof.Rows L2
noncomputable def gd (pV:Fn):Ev->Option Out:=(ae (ak 4 evE) (ae (frF (jX (enF (x1 (va 0))) (biF noD (x1 (va 0)))) (eTp 2 (nX (eNm 5) (nX (eNm 6) xB))) (ae (ifS (ar (aa leD (va 1) (aa ixD (va 6) (cI 1)))) (ae (ak 7 (evV (ifF (ar (aa (aF false) (aa ixD (va 6) (cI 0)) (cS "queue"))) (cI 1) (ngF (cI 1))))) (ae (xN 4 (lsF (au [8,9] (jX noV (va 3)) (gTp 2 (aI (gNm 8) (aI (gNm 9) dh))) tQ (tpF (x2 (aa aE (aa bN (va 5) (va 2)) (clF pV (x3 (aa ixD (va 6) (cI 0)) (va 2) (va 8)))) (aa bN (va 7) (va 9))))))) nxE)) nxE) nxE)) (ae (rtN 4) nxE)))
noncomputable def iZ (fl:Str->Str->Bool) (cF cX:Fn):Ev->Option Out:=(ae (ak 3 (evC cX (x1 (slF (flF fl "passes" (va 0)) noP (bv (va 2)))))) (ae (ak 4 (evX (lsF (dpF (x1 (tpF (x2 (aa cg (va 3) (cI 1)) (cI 1)))))) (dpF (x1 (tpF (x2 (aa cg (va 3) (cI 1)) (cI 1))))) (fLs (x1 (frX (tpF (x2 (aa cg (va 3) (cI 1)) (cI 1))) noV (fTp (x2 (frX (aa cg (va 3) (cI 1)) noV noV) (frX (cI 1) noV noV)))))))) (ae (frF (jX noV (slF (flF fl "passes" (va 0)) (bv (va 2)) noP)) (eNm 5) (ae (ak 4 (evC cF (x4 (va 5) (va 1) (va 3) (va 4)))) (ae (ak 3 (evV (aa bN (va 3) (lnF (va 5))))) nxE))) (rtF (evX (liG (x1 (va 4)) (s1F (x1 (va 4)))) (s1F (x1 (va 4))) (fNo (x1 (va 4))))))))
theorem zU (S:List Sd):lfL (S.map sdD)=true:=bM λd hd=>by
 obtain⟨p,_,rfl⟩:=List.mem_map.mp hd;rfl
theorem zV (h:p[k]?=some a):pkg p k=a:=by unfold pkg;rw[List.getD_eq_getElem?_getD,h];rfl
theorem wq {S:List Sd} (i:Nat):((List.range i).flatMap λk=>if s<=(pkg p k).2 then S.map (b8 n k (pkg p k))else[]).length<=i*S.length:=by
 induction i with
 |zero=>exact Nat.le_of_eq (by simp)
 |succ i ih=>
  rw[List.range_succ,List.flatMap_append,length_append,Nat.succ_mul];have:(List.flatMap (λk=>if s<=(pkg p k).2 then S.map (b8 n k (pkg p k))else[]) [i]).length<=S.length:=by
   rw[List.flatMap_cons,List.flatMap_nil,List.append_nil];split
   ·rw[length_map];exact le_refl _
   ·exact Nat.zero_le _
  omega
def pI (f:Fn):Prop:=∀ (p:List Pk) (s:Int) (n:Nat) (S:List Sd),p.length<=6->n<=1000->S.length<=1000->f [tpD p,.int s,iN n,.lst (S.map sdD)]=dp (.lst ((zM s n p S).map sdD))
theorem zW {la} (hl:y2 la):pI (bj 4 10 (gd la)):=λp s n S hp hn hS=>by
 have hs:aq 10 [tpD p,.int s,iN n,.lst (S.map sdD)]=[sn (tpD p),sn (.int s),sn (iN n),sn (.lst (S.map sdD)),none,none,none,none,none,none]:=rfl;refine ao rfl ?_;rw[hs];unfold gd;refine q_set (evX_lfs (d:=.lst []) (ds:=[]) (by simp) rfl (by simp) rfl) (zH (xs:=p.zipIdx) (mk:=λq=>.tup [.int (q.2:Nat),pkD q.1])
  (λi Y=>∃o5 o6 o7,Y=[sn (tpD p),sn (.int s),sn (iN n),sn (.lst (S.map sdD)),dp (.lst (((List.range i).flatMap λk=>if s<=(pkg p k).2 then S.map (b8 n k (pkg p k))else[]).map sdD)),o5,o6,o7,none,none]) ?_ ⟨none,none,none,rfl⟩ ?_ ?_)
 ·refine JF ?_;show(seqD (tpD p)).bind (λxs=>some (lG xs))=_;rw[show seqD (tpD p)=some (p.map pkD)from rfl,Option.bind_some,wm]
 ·rintro i ⟨⟨b,w⟩,j⟩ Y hq ⟨o5,o6,o7,rfl⟩;obtain⟨hq1,hq2⟩:p[i]?=some (b,w)/\i=j:=by
   rw[List.getElem?_zipIdx]at hq;cases e:p[i]? with
   |none=>rw[e]at hq;cases hq
   |some a=>rw[e]at hq;cases hq;exact⟨rfl,by simp⟩
  subst hq2;have hi:i<p.length:=(List.getElem?_eq_some_iff.mp hq1).1;have pk:=zV hq1;have x0:ixD (pkD (b,w)) (.int 0)=some (.str (kd b)):=yP _ _;have x1:ixD (pkD (b,w)) (.int 1)=some (.int w):=Jk _ _ _;have e1:((List.range (i+1)).flatMap λk=>if s<=(pkg p k).2 then S.map (b8 n k (pkg p k))else[])=((List.range i).flatMap λk=>if s<=(pkg p k).2 then S.map (b8 n k (pkg p k))else[])++(if s<=w then S.map (b8 n i (b,w))else[]):=by
   rw[List.range_succ,List.flatMap_append];simp[pk]
  have hlen:=wq (s:=s) (n:=n) (p:=p) (S:=S) i;have hlen2:i*S.length<=6*1000:=Nat.mul_le_mul (by omega) hS;rw[e1];generalize ((List.range i).flatMap λk=>if s<=(pkg p k).2 then S.map (b8 n k (pkg p k))else[])=T at hlen;by_cases hw:s<=w
  ·rw[if_pos hw];obtain⟨t,ht,ht1⟩:∃t:Int,(if b then 1 else -1)=t/\(t=1\/t= -1):=⟨_,rfl,by cases b<;>simp⟩;have mi:bN (iN i) (iN n)=some (.int ((i:Int)*(n:Int))):=ei (by omega) (by omega);refine CK (b:=true) (by simp[vw_o,x1,hw]) ⟨_,q_set (evX_lf (d:=.int t) ?_ rfl) (zG (wn (ds:=T.map sdD) (es:=(S.map (b8 n i (b,w))).map sdD) rfl ?_ (zU _) ?_) rfl),⟨_,rfl,⟨sn (iN i),sn (pkD (b,w)),dp (.int t),?_⟩⟩⟩
   ·simp only[sB,lX,x0,qS];cases b with
    |true=>
     have e:decide (kd true="queue")=true:=by decide+kernel
     simp only[e];subst ht;rfl
    |false=>
     have e:decide (kd false="queue")=false:=by decide+kernel
     simp only[e];subst ht;rfl
   ·have hc:au [8,9] (jX noV (va 3)) (gTp 2 (aI (gNm 8) (aI (gNm 9) dh))) tQ (tpF (x2 (aa aE (aa bN (va 5) (va 2)) (clF la (x3 (aa ixD (va 6) (cI 0)) (va 2) (va 8)))) (aa bN (va 7) (va 9))))
      [some (tpD p),some (.int s),some (iN n),some (.lst (S.map sdD)),none,some (iN i),some (pkD (b,w)),some (.int t),none,none]=some (S.map λc=>sdD (b8 n i (b,w) c)):=by
     refine aB (xs:=S) (mk:=sdD) (out:=λc=>sdD (b8 n i (b,w) c)) (by simp) (λc _=>?_) (lt_of_le_of_lt hS (by decide))
     have mt:bN (.int t) (.int c.2)=some (.int (t*c.2)):=pz (by omega) (by omega)
     simp[sdD,mi,x0,hl b (n:Int) c.1,mt]
     cases b with
     |true=>subst ht;simp[b8,lay]
     |false=>subst ht;simp[b8,lay]
    show lsF _ [some (tpD p),some (.int s),some (iN n),some (.lst (S.map sdD)),none,some (iN i),some (pkD (b,w)),some (.int t),none,none]=_;rw[lsF_a,hc,List.map_map];rfl
   ·rw[length_map,length_map,length_map];exact lt_of_le_of_lt (show T.length+S.length<=10000 by omega) (by decide)
   ·rw[List.map_append];rfl
  ·rw[if_neg hw];refine CK (b:=false) (by simp[vw_o,x1,hw]) ⟨_,rfl,⟨_,rfl,⟨sn (iN i),sn (pkD (b,w)),o7,?_⟩⟩⟩;rw[List.append_nil];rfl
 ·rintro Y ⟨o5,o6,o7,rfl⟩;rw[List.length_zipIdx];rfl
def tD (f:Fn):Prop:=∀ (ps:List (List Pk)) (s:Int) (t:Nat),Valid ps->prod ps<64->t<=ps.length->∃T:List Sd,T.Perm (sds s (prod (ps.take t)) (ps.drop t))/\T.Pairwise (λa b=>HT.lexLt [b.1,b.2] [a.1,a.2]=false)/\f [af ps,.int s,iN t]=dp (.lst (T.map sdD))
theorem oo {α:Type} (l:List α) (t i:Nat) (a:α) (h:(l.drop t)[i]?=some a):(l.drop t).take (i+1)=(l.drop t).take i++[a]:=by rw[List.take_add_one,h];rfl
theorem rh (ps:List (List Pk)) (t i:Nat):prod (ps.take t)*prod ((ps.drop t).take i)=prod (ps.take (t+i)):=by rw[<-bS,List.take_add]
theorem pJ (hv:Valid ps) (k:Nat):prod (ps.take k)<=prod ps:=by
 have e:prod ps=prod (ps.take k)*prod (ps.drop k):=by rw[<-bS,List.take_append_drop]
 have h1:1<=prod (ps.drop k):=by
  have:∀rs:List (List Pk),(∀p∈rs,p∈ps)->1<=prod rs:=λrs=>by
   induction rs with
   |nil=>intro _;decide
   |cons p rs ih=>intro h;exact Nat.mul_pos (hv.p (h p mem_cons_self)).1 (ih λq hq=>h q (mem_cons_of_mem _ hq))
  exact this _ λp hp=>List.mem_of_mem_drop hp
 rw[e];exact Nat.le_mul_of_pos_right _ h1
theorem mq (hv:Valid ps) (t i:Nat):1<=prod ((ps.drop t).take i):=by
 have:∀rs:List (List Pk),(∀p∈rs,p∈ps)->1<=prod rs:=λrs=>by
  induction rs with
  |nil=>intro _;decide
  |cons p rs ih=>intro h;exact Nat.mul_pos (hv.p (h p mem_cons_self)).1 (ih λq hq=>h q (mem_cons_of_mem _ hq))
 grind
theorem Go (hv:Valid ps) (s:Int) (t i:Nat):(sds s (prod (ps.take t)) ((ps.drop t).take i)).length<=prod ps:=by
 refine Nat.le_trans (CO _ _ _) ?_;have h1:1<=prod (ps.take t):=by have:=mq hv 0 t;rwa [List.drop_zero]at this
 refine Nat.le_trans ?_ (Nat.le_trans (Nat.le_of_eq (rh ps t i)) (pJ hv (t+i)));exact Nat.le_mul_of_pos_left _ h1
theorem L7 (hf:fl "Mill" "passes"=true) (h0:fP Y 0=some (af ps)) (h1:fP Y 2=some (iN t)):slF (flF fl "passes" (va 0)) noP (bv (va 2)) Y=some (.tup ((ps.take t).map tpD)):=by
 unfold slF orO qx;simp[h0,h1,qU hf,aA,iU]
theorem L8 (hf:fl "Mill" "passes"=true) (h0:fP Y 0=some (af ps)) (h1:fP Y 2=some (iN t)):slF (flF fl "passes" (va 0)) (bv (va 2)) noP Y=some (.tup ((ps.drop t).map tpD)):=by
 unfold slF orO qx;simp[h0,h1,qU hf,aA,qT]
theorem wt (hc:mf co) (hp:∀p∈ps,p.length<1000):co [.tup (ps.map tpD)]=dp (.int (prod ps:Nat)):=by
 have i1:(ps.map λp=>(false,p)).map (·.2)=ps:=by rw[List.map_map];exact List.map_id ps
 have i2:(ps.map λp=>(false,p)).map paD=ps.map tpD:=by rw[List.map_map];rfl
 have q:=hc false (ps.map λp=>(false,p)) λp hp'=>by
  obtain⟨r,hr,rfl⟩:=List.mem_map.mp hp';exact hp r hr
 rw[i1,i2]at q;exact q
theorem CQ (hfl:fl "Mill" "passes"=true) (hsb:pI sb) (hco:mf co):tD (bj 3 6 (iZ fl sb co)):=λps s t hv h64 ht=>by
 have hs:aq 6 [af ps,.int s,iN t]=[sn (af ps),sn (.int s),sn (iN t),none,none,none]:=rfl;obtain⟨n0,hn0⟩:∃n,n=prod (ps.take t):=⟨_,rfl⟩;have ec:co [.tup ((ps.take t).map tpD)]=dp (.int (n0:Nat)):=by rw[hn0];exact wt hco λp hp=>by have:=(hv.p (List.mem_of_mem_take hp)).2.1;omega
 have hle:∀i,n0*prod ((ps.drop t).take i)<=prod ps:=λi=>by rw[hn0,rh];exact pJ hv _
 have hsl:∀i,(sds s n0 ((ps.drop t).take i)).length<=prod ps:=λi=>by rw[hn0];exact Go hv s t i
 obtain⟨T,h1,h2,h3⟩:=CM (S:=sds s n0 (ps.drop t)) (by have:=hsl (ps.drop t).length;rw[List.take_length]at this;omega);rw[<-hn0];refine⟨T,h1,h2,ao rfl ?_⟩;rw[hs];unfold iZ;refine q_set (evX_lf (d:=iN n0) ?_ rfl) (q_set (evX_lfs (d:=.lst [sdD ((n0:Int)-1,1)]) (ds:=[sdD ((n0:Int)-1,1)]) ?_ rfl ?_ rfl) (zH (xs:=ps.drop t) (mk:=tpD)
  (λi Y=>∃o5,Y=[sn (af ps),sn (.int s),sn (iN t),dp (iN (n0*prod ((ps.drop t).take i))),dp (.lst ((sds s n0 ((ps.drop t).take i)).map sdD)),o5]) ?_ ⟨none,?_⟩ ?_ ?_))
 ·have e:=L7 hfl (Y:=[some (af ps),some (.int s),some (iN t),none,none,none]) (ps:=ps) (t:=t) rfl rfl;simp only[sB,e,ec]
 ·simp[sdD]
 ·simp[sdD]
 ·show jX noV _ (shv _)=_;rw[bW,L8 hfl rfl rfl];rfl
 ·have e:n0*prod ((ps.drop t).take 0)=n0:=Nat.mul_one n0;rw[e];rfl
 ·rintro i p Y hp ⟨o5,rfl⟩;have hpm:p∈ps:=List.mem_of_mem_drop (mem_of_getElem? hp);have hl6:=(hv.p hpm).2.1;have hb:=hle i;have hc:=hv.codes;have e:=hsb p s (n0*prod ((ps.drop t).take i)) (sds s n0 ((ps.drop t).take i)) hl6 (by omega) (by have:=hsl i;omega);rw[<-zN,<-oo ps t i p hp]at e;refine⟨_,q_set (evX_call (d:=.lst ((sds s n0 ((ps.drop t).take (i+1))).map sdD)) (e:=.lst ((sds s n0 ((ps.drop t).take (i+1))).map sdD)) ?_ rfl rfl ?_) (q_set (evX_lf (d:=iN (n0*prod ((ps.drop t).take i)*p.length)) ?_ rfl) rfl),⟨sn (tpD p),?_⟩⟩
  ·simp only[sB,e]
  ·simp only[sB,e,sZ]
  ·have y:seqD (tpD p)=some (p.map pkD):=rfl;simp only[sB,cU,y,length_map,y0 (show n0*prod ((ps.drop t).take i)<1000000 by omega)]
  ·rw[oo ps t i p hp,cV,<-Nat.mul_assoc];rfl
 ·rintro Y ⟨o5,rfl⟩;rw[List.take_length];have s1:s1F (x1 (va 4)) (vw [sn (af ps),sn (.int s),sn (iN t),dp (iN (n0*prod (ps.drop t))),dp (.lst ((sds s n0 (ps.drop t)).map sdD)),o5])=some (T.map sdD):=by
   show(x1 (va 4) _).bind cM=_;simp only[sB,h3]
  refine bt (evX_lfs (d:=.lst (T.map sdD)) (ds:=T.map sdD) (jU s1) rfl s1 (zU T))
end K20
namespace K20
open PySem PySem.Spec PyProof.Rows L2
noncomputable def u4 (bX bY:Fn):Ev->Option Out:=(ae (lC (clF bY (x1 (va 0)))) (rtF (evX (lsF (au [1,2] (jX noV (clF bX (x3 (va 0) (cI 1) (cI 0)))) (gTp 2 (aI (gNm 1) (aI (gNm 2) dh))) tQ (va 2))) (au [1,2] (jX noV (clF bX (x3 (va 0) (cI 1) (cI 0)))) (gTp 2 (aI (gNm 1) (aI (gNm 2) dh))) tQ (va 2)) (fCo [1,2] (jX noV (clF bX (x3 (va 0) (cI 1) (cI 0)))) (gTp 2 (aI (gNm 1) (aI (gNm 2) dh))) tQ (frX (va 2) noV noV)))))
noncomputable def fC:Ev->Option Out:=(ae (ak 1 (evX noV noV dcN)) (ae (ak 2 (evV (cI 1))) (ae (frF (jX noV (va 0)) (eNm 3) (ae (ak 2 (evV (aa bN (va 2) (lnF (va 3))))) nxE)) (ae (frF (jR (x1 (va 2))) (eNm 4) (ae (ak 5 (evM 4 (evV (va 4)))) (ae (ak 6 (evV (cI 0))) (ae (ak 7 (evV (cI 1))) (ae (ak 8 (evV (cI 1))) (ae (frF (jX noV (va 0)) (eNm 3) (ae (ak 9 (evV (aa aT (va 5) (lnF (va 3))))) (ae (ak 5 (evV (aa cO (va 5) (lnF (va 3))))) (ae (ifS (ar (aa (aF false) (aa ixD (aa ixD (va 3) (va 9)) (cI 0)) (cS "pile"))) (ae (ak 6 (evV (aa cg (aa cg (va 7) (cI 1)) (va 6)))) (ae (ak 8 (evV (ngF (va 8)))) nxE)) nxE) (ae (ak 6 (evV (aa aE (aa bN (va 9) (va 7)) (va 6)))) (ae (ak 7 (evV (aa bN (va 7) (lnF (va 3))))) nxE)))))) (ae (qO 1 (va 6) (evV (va 8)) (va 8)) nxE))))))) (rtF (evX (lsF (au [6] (jR (x1 (va 2))) (gNm 6) tQ (aa ixD (va 1) (va 6)))) (au [6] (jR (x1 (va 2))) (gNm 6) tQ (aa ixD (va 1) (va 6))) (fCo [6] (jR (x1 (va 2))) (gNm 6) tQ (frX (aa ixD (va 1) (va 6)) noV noV))))))))
theorem CS {α:Type} {Y1:Ev} {out:α->Option Out} {P:α->Prop} (h:o=some Y1) (k:∃a,F Y1=out a/\P a):∃a,o.bind F=out a/\P a:=by rw[h];exact k
def tE (f:Fn):Prop:=∀ps:List (List Pk),Valid ps->Wide ps->prod ps<64->∃T:List Sd,T.Perm (tol ps)/\T.Pairwise (λa b=>HT.lexLt [b.1,b.2] [a.1,a.2]=false)/\f [af ps]=dp (.lst ((T.map (·.2)).map D.int))
theorem pK (S:List Int):lfL (S.map D.int)=true:=bM λd hd=>by
 obtain⟨p,_,rfl⟩:=List.mem_map.mp hd;rfl
theorem kI (hv:Valid ps):∀p∈ps,0<p.length:=λp hp=>(hv.p hp).1
theorem CT {os lw} (hos:tD os) (hlw:Gj lw):tE (bj 1 3 (u4 os lw)):=λps hv hw hp=>by
 have hs:aq 3 [af ps]=[sn (af ps),none,none]:=rfl;obtain⟨T,h1,h2,h3⟩:=hos ps 1 0 hv hp (Nat.zero_le _);have h1:T.Perm (sds 1 1 ps):=h1;have h3:os [af ps,.int 1,.int 0]=dp (.lst (T.map sdD)):=h3;rw[CP (kI hv) hw]at h1;have hT:T.length<big:=by
  rw[h1.length_eq];unfold tol;rw[length_map,length_range];exact Nat.lt_trans hp (by decide)
 have hc:au [1,2] (jX noV (clF os (x3 (va 0) (cI 1) (cI 0)))) (gTp 2 (aI (gNm 1) (aI (gNm 2) dh))) tQ (va 2) [some (af ps),none,none]=some ((T.map (·.2)).map D.int):=by
  rw[List.map_map];refine aB (xs:=T) (mk:=sdD) (out:=λc=>D.int c.2) ?_ (λc _=>?_) hT
  ·simp only[sB,bW,h3,jq]
  ·simp[sdD]
 refine⟨T,h1,h2,ao rfl ?_⟩;rw[hs];unfold u4;refine zE (d:=.non) ?_ (bt (evX_lfs (d:=.lst ((T.map (·.2)).map D.int)) (ds:=(T.map (·.2)).map D.int) ?_ rfl ?_ (pK _)))
 ·simp only[sB,hlw ps hv hw]
 all_goals simp_all
def dkD (W:List Sd):D:=.dct (W.map λq=>Sum.inl q.1) (W.map λq=>.int q.2)
theorem CU {W:List Sd} (h:a ∉ W.map (·.1)):lH (W.map λq=>Sum.inl q.1) (.inl a)=false:=by
 unfold lH;grind
theorem JO (W:List Sd):lfL (W.map λq=>D.int q.2)=true:=bM λd hd=>by
 obtain⟨p,_,rfl⟩:=List.mem_map.mp hd;rfl
theorem CV {R L Sp} {W} (hY:gI Y i=dp (dkD W)) (hk:k (vw Y)=some (.int q.1)) (hR:R (vw Y)=some (.int q.2)) (hn:q.1 ∉ W.map (·.1)) (hl:W.length<1000):
  qO i k (evX R L Sp) R Y=some (.nx (Y.set i (dp (dkD (W++[q]))))):=by
 unfold qO xS
 rw[show j9 Y i=some (W.map λq=>Sum.inl q.1,W.map λq=>D.int q.2)by unfold j9;rw[hY];rfl,hR,hk]
 show(if lfL (W.map λq=>D.int q.2)=true/\(W.map λq:Sd=>(Sum.inl q.1:Key)).length+1<big then _ else _)=_
 rw[if_pos ⟨JO W,by rw[length_map];exact lt_of_le_of_lt (show W.length+1<=1000 by omega) (by decide)⟩]
 unfold nZ jN dkD
 rw[CU hn,List.map_append,List.map_append]
 rfl
theorem zX:∀ {W:List Sd} {q:Sd},q∈W->(W.map (·.1)).Nodup->qt (W.map λq=>Sum.inl q.1) (W.map λq=>.int q.2) (.inl q.1)=some (.int q.2)
 |[],_,h,_=>nomatch h
 |p::W,q,h,hn=>by
  rw[List.map_cons]at hn;obtain⟨h1,h2⟩:=List.nodup_cons.mp hn;show(if(Sum.inl p.1:Key)=.inl q.1 then some (D.int p.2)else qt (W.map λq=>Sum.inl q.1) (W.map λq=>.int q.2) (.inl q.1))=_;rcases mem_cons.mp h with rfl|h
  ·rw[if_pos rfl]
  ·rw[if_neg λe=>?_,zX h h2];have e:p.1=q.1:=Sum.inl.inj e;exact h1 (by rw[e];exact List.mem_map.mpr ⟨q,h,rfl⟩)
theorem JP {W} (h:q∈W) (hn:(W.map (·.1)).Nodup):ixD (dkD W) (.int q.1)=some (.int q.2):=zX h hn
def stt (ps:List (List Pk)) (i m:Nat):Sd:=p1 (ps.take i) (dg (ps.take i) m)
theorem zY (h:ps[i]?=some p):stt ps (i+1) m=b8 (prod (ps.take i)) (m/prod (ps.take i)%p.length) (pkg p (m/prod (ps.take i)%p.length)) (stt ps i m):=by
 unfold stt p1;rw[List.take_add_one,h];show pl 1 (ps.take i++[p]) (dg (ps.take i++[p]) m) (0,1)=_;rw[pH,kA 1 (0,1) p _ (zO _ _),Nat.one_mul]
theorem Gp (h:m<prod ps):(tol ps)[m]?=some (stt ps ps.length m):=by
 unfold tol stt;grind
theorem rm (h:m<prod ps):(tol ps).take (m+1)=(tol ps).take m++[stt ps ps.length m]:=by
 rw[List.take_add_one,Gp h];rfl
theorem CW (hv:Valid ps) (h:m<prod ps):(stt ps ps.length m).1 ∉ ((tol ps).take m).map (·.1):=λhm=>by
 have hn:=om (kI hv);have e:(tol ps).map (·.1)=((tol ps).take (m+1)).map (·.1)++((tol ps).drop (m+1)).map (·.1):=by rw[<-List.map_append,List.take_append_drop]
 rw[e,rm h,List.map_append]at hn;grind
theorem CY (b:Bool):decide (kd b="pile")=!b:=by cases b<;>decide+kernel
def sLF (f:Fn):Prop:=∀ (ps:List (List Pk)) (S:List Int),Valid ps->prod ps<64->S.length=prod ps->(∀i,i<prod ps->((i:Int),S.getD i 0)∈tol ps)->f [aA ps]=dp (.lst (S.map D.int))
theorem L9:sLF (bj 1 10 fC):=λps S hv h2 hl hS=>by
 have hs:aq 10 [aA ps]=[sn (aA ps),none,none,none,none,none,none,none,none,none]:=rfl;have y:seqD (aA ps)=some (ps.map tpD):=rfl;have hpi:∀i,prod (ps.take i)<64:=λi=>lt_of_le_of_lt (pJ hv i) h2;have hpp:∀i,1<=prod (ps.take i):=λi=>by have:=mq hv 0 i;rwa [List.drop_zero]at this
 have hlen:∀ (i:Nat) (p:List Pk),ps[i]?=some p->1<=p.length/\p.length<=6:=λi p h=>⟨(hv.p (mem_of_getElem? h)).1,(hv.p (mem_of_getElem? h)).2.1⟩;have psn:∀ (i:Nat) (p:List Pk),ps[i]?=some p->prod (ps.take (i+1))=prod (ps.take i)*p.length:=λi p h=>by
  rw[List.take_add_one,h];exact cV _ _
 have fin:∃a:Unit,fC [sn (aA ps),none,none,none,none,none,none,none,none,none]=some (.rt (.deep,.lst (S.map D.int)))/\True:=by
  unfold fC;refine ax (s:=(.deep,.dct [] [])) (Y':=[sn (aA ps),none,none,none,none,none,none,none,none,none]) rfl (ax (evX_lf (d:=.int 1) rfl rfl) (uW (xs:=ps) (mk:=tpD) (λi Y=>∃o3,Y=[sn (aA ps),dp (.dct [] []),dp (.int (prod (ps.take i):Nat)),o3,none,none,none,none,none,none]) ?_ ⟨none,rfl⟩ ?_ ?_))
  ·show(va 0 [some (aA ps),none,some (.int 1),none,none,none,none,none,none,none]).bind seqD=_;rw[va_a,shAt_0,Option.bind_some,y]
  ·rintro i p Y hp ⟨o3,rfl⟩;have sp:seqD (tpD p)=some (p.map pkD):=rfl;refine CS (Y1:=[sn (aA ps),dp (.dct [] []),dp (.int (prod (ps.take i):Nat)),sn (tpD p),none,none,none,none,none,none]) rfl (ax (evX_lf (d:=iN (prod (ps.take i)*p.length)) ?_ rfl) (jV ⟨sn (tpD p),?_⟩))
   ·simp only[sB,cU,sp,length_map,y0 (show prod (ps.take i)<1000000 by have:=hpi i;omega)]
   ·rw[psn i p hp];rfl
  ·rintro Y ⟨o3,rfl⟩;rw[List.take_length];refine re (n:=prod ps) (v:=λi=>(i:Int)) (λm Y=>∃o3 o4 o5 o6 o7 o8 o9,Y=[sn (aA ps),dp (dkD ((tol ps).take m)),dp (.int (prod ps:Nat)),o3,o4,o5,o6,o7,o8,o9]) ?_ ⟨o3,none,none,none,none,none,none,rfl⟩ ?_ ?_
   ·refine f8 ?_;show(x1 (va 2) [some (aA ps),none,some (.int (prod ps:Nat)),Bt o3,none,none,none,none,none,none]).bind j8=_;simp only[sB];exact bR (by omega)
   ·rintro m Y hm ⟨o3,o4,o5,o6,o7,o8,o9,rfl⟩;have st0:stt ps 0 m=(0,1):=by unfold stt p1;rw[List.take_zero];rfl
    refine ax (evM_lf (d:=iN m) rfl rfl rfl) (ax (evX_lf (d:=.int 0) rfl rfl) (ax (evX_lf (d:=.int 1) rfl rfl) (ax (evX_lf (d:=.int 1) rfl rfl)
     (uW (xs:=ps) (mk:=tpD) (λi Y=>∃o3 o9,Y=[sn (aA ps),dp (dkD ((tol ps).take m)),dp (.int (prod ps:Nat)),o3,sn (iN m),dp (iN (m/prod (ps.take i))),dp (.int (stt ps i m).1),dp (.int (prod (ps.take i):Nat)),dp (.int (stt ps i m).2),o9]) ?_ ⟨o3,o9,?_⟩ ?_ ?_))))
    ·show(va 0 [some (aA ps),none,some (.int (prod ps:Nat)),Bt o3,some (iN m),some (iN m),some (.int 0),some (.int 1),some (.int 1),Bt o9]).bind seqD=_;rw[va_a,shAt_0,Option.bind_some,y]
    ·rw[st0,List.take_zero,show prod []=1 from rfl,Nat.div_one];rfl
    ·rintro i p Y hp ⟨o3,o9,rfl⟩;have sp:seqD (tpD p)=some (p.map pkD):=rfl;obtain⟨l1,l6⟩:=hlen i p hp;have hpi:=hpi i;have hpp:=hpp i;rw[zY hp,psn i p hp,<-Nat.div_div_eq_div_mul];have hk:m/prod (ps.take i)%p.length<p.length:=Nat.mod_lt _ l1;have em:aT (iN (m/prod (ps.take i))) (.int (p.length:Int))=some (iN (m/prod (ps.take i)%p.length)):=aP (show(0:Int)<(p.length:Int)by omega);have ed:cO (iN (m/prod (ps.take i))) (.int (p.length:Int))=some (iN (m/prod (ps.take i)/p.length)):=bA (show(0:Int)<(p.length:Int)by omega) (by omega);generalize m/prod (ps.take i)%p.length=k at hk em;generalize m/prod (ps.take i)/p.length=l at ed;generalize m/prod (ps.take i)=l0 at em ed;generalize prod (ps.take i)=n at hpi hpp;obtain⟨⟨b,w⟩,hb⟩:∃a,p[k]?=some a:=⟨_,getElem?_eq_getElem hk⟩;have pk:=zV hb;rw[pk];obtain⟨c,s⟩:=stt ps i m;have f3:ixD (tpD p) (iN k)=some (pkD (b,w)):=b7 hb;have x0:ixD (pkD (b,w)) (.int 0)=some (.str (kd b)):=yP _ _;have mk:bN (iN k) (iN n)=some (.int ((k:Int)*(n:Int))):=ei (by omega) (by omega);have mn:bN (iN n) (.int (p.length:Int))=some (iN (n*p.length)):=y0 (by omega);refine CS (Y1:=[sn (aA ps),dp (dkD ((tol ps).take m)),dp (.int (prod ps:Nat)),sn (tpD p),sn (iN m),dp (iN l0),dp (.int c),dp (iN n),dp (.int s),o9]) rfl
      (ax (evX_lf (d:=iN k) ?_ rfl) (ax (evX_lf (d:=iN l) ?_ rfl) (CK (b:=!b) ?_ ⟨[sn (aA ps),dp (dkD ((tol ps).take m)),dp (.int (prod ps:Nat)),sn (tpD p),sn (iN m),dp (iN l),dp (.int (if b then c else(n:Int)-1-c)),dp (iN n),dp (.int (if b then s else -s)),dp (iN k)],?_,
       ax (evX_lf (d:=.int ((k:Int)*(n:Int)+(if b then c else(n:Int)-1-c))) ?_ rfl) (ax (evX_lf (d:=iN (n*p.length)) ?_ rfl) (jV ⟨sn (tpD p),dp (iN k),rfl⟩))⟩)))
     ·simp only[sB,cU,sp,length_map,em]
     ·simp only[sB,cU,sp,length_map,ed]
     ·simp only[sB,f3,x0,qS,CY];rfl
     ·cases b with
      |true=>rfl
      |false=>
       show ae _ _ _=_;refine q_set (evX_lf (d:=.int ((n:Int)-1-c)) ?_ rfl) (q_set (evX_lf (d:=.int (-s)) ?_ rfl) rfl)
       ·simp only[sB]
       ·simp only[sB,uM,pw]
     ·simp only[sB,mk]
     ·simp only[sB,cU,sp,length_map,mn]
    ·rintro Y ⟨o3,o9,rfl⟩;rw[rm hm];refine mj (CV (W:=(tol ps).take m) (q:=stt ps ps.length m) rfl rfl rfl (CW hv hm) ?_) ⟨_,_,_,_,_,_,_,rfl⟩;rw[List.length_take];omega
   ·rintro Y ⟨o3,o4,o5,o6,o7,o8,o9,rfl⟩;have hll:(tol ps).length=prod ps:=by unfold tol;rw[length_map,length_range]
    rw[<-hll,List.take_length,hll];have hc:∀o3 o4 o5 o6 o7 o8 o9:Option D,au [6] (jR (x1 (va 2))) (gNm 6) tQ (aa ixD (va 1) (va 6)) [some (aA ps),some (dkD (tol ps)),some (.int (prod ps:Nat)),o3,o4,o5,o6,o7,o8,o9]=some (S.map D.int):=λo3 o4 o5 o6 o7 o8 o9=>by
     have e:S.map D.int=(List.range (prod ps)).map λi=>D.int (S.getD i 0):=by
      rw[<-hl];conv=>lhs;rw[<-bQ 0 S]
      rw[List.map_map];rfl
     rw[e];refine aB (xs:=List.range (prod ps)) (mk:=λ(i:Nat)=>D.int (i:Int)) (out:=λi=>D.int (S.getD i 0)) (f8 ?_) (λi hi=>?_) (by rw[length_range];exact Nat.lt_trans h2 (by decide))
     ·simp only[sB];exact bR (by omega)
     ·have:=JP (hS i (List.mem_range.mp hi)) (om (kI hv));simp only[sB,this]
    refine⟨(),bt (evX_lfs (d:=.lst (S.map D.int)) (ds:=S.map D.int) ?_ rfl ?_ (pK _)),trivial⟩
    ·simp only[sB,hc]
    ·simp only[sB,hc]
 obtain⟨_,fin,_⟩:=fin;exact ao rfl (by rw[hs];exact fin)
end K20
namespace K20
open PySem PySem.Spec PyProof.Rows L2
noncomputable def jY:Ev->Option Out:=(ae (ak 2 (evV (aa aT (va 1) (lnF (va 0))))) (ae (ak 3 (evV (aa aT (aa cO (va 1) (cI 8)) (lnF (aa ixD (va 0) (va 2)))))) (ae (ak 4 (evV (aa aE (aa aE (slF (aa ixD (va 0) (va 2)) noP (bv (va 3))) (tpF (x1 (tpF (x2 (aa ixD (aa ixD (aa ixD (va 0) (va 2)) (va 3)) (cI 0)) (cI 0)))))) (slF (aa ixD (va 0) (va 2)) (bv (aa aE (va 3) (cI 1))) noP)))) (rtF (evV (aa aE (aa aE (slF (va 0) noP (bv (va 2))) (tpF (x1 (va 4)))) (slF (va 0) (bv (aa aE (va 2) (cI 1))) noP)))))))
def xn:List Str:=["BadMill","Shut"]
theorem pL (h:a.length+b.length<1000):aE (.tup a) (.tup b)=some (.tup (a++b)):=by
 show(if a.length+b.length<big then _ else _)=_;rw[if_pos (Nat.lt_trans h (by decide))]
theorem DN (h0:A Y=some (.tup ds)) (h1:B Y=some (iN k)):slF A noP (bv B) Y=some (.tup (ds.take k)):=by
 have e:=iU ds id k;rw[List.map_id,List.map_id]at e;unfold slF orO qx;simp[h0,h1,e]
theorem DO (h0:A Y=some (.tup ds)) (h1:B Y=some (iN k)):slF A (bv B) noP Y=some (.tup (ds.drop k)):=by
 have e:=qT ds id k;rw[List.map_id,List.map_id]at e;unfold slF orO qx;simp[h0,h1,e]
def cK {α:Type} (l:List α) (k:Nat) (a:α):List α:=(l.take k++[a])++l.drop (k+1)
theorem rp (a:α) (h:k<l.length):(cK l k a).length=l.length:=by grind [cK]
theorem put0_mem {a b:α} (h:b∈cK l k a):b∈l\/b=a:=by grind [cK]
theorem u5 (l:List α) (k:Nat) (a:α):a∈cK l k a:=by simp[cK]
theorem rz {α β:Type} (f:α->β) (l:List α) (k:Nat) (a:α):(cK l k a).map f=(l.map f).take k++[f a]++(l.map f).drop (k+1):=by simp[cK]
def zZ (ps:List (List Pk)):Prop:=∃p∈ps,∃a∈p,a.2=0
def z0 (f:Fn):Prop:=∀ (ps:List (List Pk)) (c:Int),Valid ps->0<ps.length->∃qs,Valid qs/\zZ qs/\f [aA ps,.int c]=dp (aA qs)
theorem Gq:z0 (bj 2 5 jY):=λps c hv h0=>by
 have hs:aq 5 [aA ps,.int c]=[sn (aA ps),sn (.int c),none,none,none]:=rfl;have hlen:=hv.len;have m1:=md c (show(0:Int)<(ps.length:Int)by omega);obtain⟨i,hi⟩:∃i:Nat,(i:Int)=c%(ps.length:Int):=⟨(c%(ps.length:Int)).toNat,by omega⟩;have hil:i<ps.length:=by omega
 obtain⟨p,hp⟩:∃p,ps[i]?=some p:=⟨_,getElem?_eq_getElem hil⟩;have hpm:=mem_of_getElem? hp;have hpv:=hv.p hpm;have m2:=md (c/8) (show(0:Int)<(p.length:Int)by have:=hpv.1;omega);obtain⟨k,hk⟩:∃k:Nat,(k:Int)=c/8%(p.length:Int):=⟨(c/8%(p.length:Int)).toNat,by omega⟩;have hkl:k<p.length:=by omega
 obtain⟨⟨b,w⟩,hb⟩:∃a,p[k]?=some a:=⟨_,getElem?_eq_getElem hkl⟩;have hp6:=hpv.2.1;have hnl:=rp (l:=p) (b,(0:Int)) hkl;have y:seqD (aA ps)=some (ps.map tpD):=rfl;have sp:seqD (tpD p)=some (p.map pkD):=rfl;have f1:ixD (aA ps) (iN i)=some (tpD p):=b7 hp;have f2:ixD (tpD p) (iN k)=some (pkD (b,w)):=b7 hb;have x0:ixD (pkD (b,w)) (.int 0)=some (.str (kd b)):=yP _ _;have ee:ps=ps.take i++p::ps.drop (i+1):=by
  have:=List.take_append_drop i ps;rw[List.drop_eq_getElem_cons hil]at this;rw[getElem?_eq_getElem hil]at hp;cases hp;exact this.symm
 have hpr:prod (cK ps i (cK p k (b,0)))=prod ps:=by
  conv=>rhs;rw[ee]
  unfold cK;rw[bS,bS,bS];show prod (ps.take i)*((cK p k (b,(0:Int))).length*1)*_=_*(p.length*_);rw[hnl,Nat.mul_one,Nat.mul_assoc]
 have hql:=rp (l:=ps) (cK p k (b,(0:Int))) hil;refine⟨cK ps i (cK p k (b,0)),⟨by omega,λq hq=>?_,by rw[hpr];exact hv.codes⟩,⟨_,u5 _ _ _,_,u5 _ _ _,rfl⟩,ao rfl ?_⟩
 ·rcases put0_mem hq with hq|rfl
  ·exact hv.each q hq
  ·refine yZ (by omega) (by omega) λa ha=>?_;rcases put0_mem ha with ha|rfl
   ·have:=hpv.2.2 a ha;simp[okK];omega
   ·simp[okK]
 rw[hs];unfold jY;have l1:((p.map pkD).take k).length+[pkD (b,0)].length<1000:=by rw[List.length_take,length_map];show min k p.length+1<1000;omega
 have l2:((p.map pkD).take k++[pkD (b,0)]).length+((p.map pkD).drop (k+1)).length<1000:=by
  rw[length_append,List.length_take,List.length_drop,length_map];show min k p.length+1+_<1000;omega
 have l3:((ps.map tpD).take i).length+[tpD (cK p k (b,0))].length<1000:=by rw[List.length_take,length_map];show min i ps.length+1<1000;omega
 have l4:((ps.map tpD).take i++[tpD (cK p k (b,0))]).length+((ps.map tpD).drop (i+1)).length<1000:=by
  rw[length_append,List.length_take,List.length_drop,length_map];show min i ps.length+1+_<1000;omega
 have e1:tpD (cK p k (b,0))=.tup ((p.map pkD).take k++[pkD (b,0)]++(p.map pkD).drop (k+1)):=by unfold tpD;rw[rz]
 have e2:aA (cK ps i (cK p k (b,0)))=.tup ((ps.map tpD).take i++[tpD (cK p k (b,0))]++(ps.map tpD).drop (i+1)):=by unfold aA;rw[rz]
 have k1:(k:Int)+1=((k+1:Nat):Int):=by omega
 have i1:(i:Int)+1=((i+1:Nat):Int):=by omega
 refine q_set (evX_lf (d:=iN i) ?_ rfl) (q_set (evX_lf (d:=iN k) ?_ rfl) (q_set (evX_lf (d:=tpD (cK p k (b,0))) ?_ (yS _)) (bt (evX_lf (d:=aA (cK ps i (cK p k (b,0)))) ?_ (pB _)))))
 ·simp only[sB,cU,y,length_map,aP (show(0:Int)<(ps.length:Int)by omega),<-hi]
 ·simp only[sB,f1,bA (show(0:Int)<8 by decide) (by decide),cU,sp,length_map,aP (show(0:Int)<(p.length:Int)by omega),<-hk]
 ·simp only[set_cons_succ,set_cons_zero];show aa aE (aa aE (slF (aa ixD (va 0) (va 2)) noP (bv (va 3))) (tpF (x1 (tpF (x2 (aa ixD (aa ixD (aa ixD (va 0) (va 2)) (va 3)) (cI 0)) (cI 0)))))) (slF (aa ixD (va 0) (va 2)) (bv (aa aE (va 3) (cI 1))) noP) [some (aA ps),some (.int c),some (iN i),some (iN k),none]=_;have a1:aa ixD (va 0) (va 2) [some (aA ps),some (.int c),some (iN i),some (iN k),none]=some (.tup (p.map pkD)):=by
   simp only[sB,f1];rfl
  have s1:=DN (B:=va 3) (k:=k) a1 (by simp only[sB]);have s2:=DO (B:=aa aE (va 3) (cI 1)) (k:=k+1) a1 (by simp only[sB,k1]);have s3:tpF (x1 (tpF (x2 (aa ixD (aa ixD (aa ixD (va 0) (va 2)) (va 3)) (cI 0)) (cI 0)))) [some (aA ps),some (.int c),some (iN i),some (iN k),none]=some (.tup [pkD (b,0)]):=by
   simp only[sB,qR,f1,f2,x0];rfl
  rw[bin2_a,bin2_a,s1,s3,s2];simp only[Option.bind_some,pL l1,pL l2,e1]
 ·simp only[set_cons_succ,set_cons_zero];show aa aE (aa aE (slF (va 0) noP (bv (va 2))) (tpF (x1 (va 4)))) (slF (va 0) (bv (aa aE (va 2) (cI 1))) noP) [some (aA ps),some (.int c),some (iN i),some (iN k),some (tpD (cK p k (b,0)))]=_;have a1:va 0 [some (aA ps),some (.int c),some (iN i),some (iN k),some (tpD (cK p k (b,0)))]=some (.tup (ps.map tpD)):=by simp only[va_a,shAt_0];rfl
  have s1:=DN (B:=va 2) (k:=i) a1 (by simp only[sB]);have s2:=DO (B:=aa aE (va 2) (cI 1)) (k:=i+1) a1 (by simp only[sB,i1]);have s3:tpF (x1 (va 4)) [some (aA ps),some (.int c),some (iN i),some (iN k),some (tpD (cK p k (b,0)))]=some (.tup [tpD (cK p k (b,0))]):=by
   simp only[sB,qR]
  rw[bin2_a,bin2_a,s1,s3,s2];simp only[Option.bind_some,pL l3,pL l4,e2]
end K20
namespace K20
open PySem PySem.Spec PyProof.Rows L2
def oq:Ev->Option Out:=(rtF (evV (aa (aF false) (va 1) (aa (aF false) (va 0) (cI 1)))))
noncomputable def jZ (dO cH aL:Fn):Ev->Option Out:=(ae (ak 2 (evC aL (x1 (va 0)))) (ae (ifS (dG (trF (clF cH (x1 (va 1))))) (ae noO' nxE) nxE) (ae (ak 3 evE) (ae (frF (jX noV (va 1)) (eNm 4) (ae (ifS (lq (ar (aa gtD (lnF (va 3)) (cI 0))) (trF (clF dO (x2 (aa ixD (va 2) (aa cg (lnF (va 3)) (cI 1))) (aa gtD (va 4) (aa ixD (aa ixD (va 3) (ngF (cI 1))) (ngF (cI 1)))))))) (ae (vQ 3 (ngF (cI 1)) (va 4)) nxE) (ae (ifS (ar (aa ltD (lnF (va 3)) (lnF (va 2)))) (ae (oX 3 (evX (lsF (dpF (x1 (va 4)))) (dpF (x1 (va 4))) (fLs (x1 (frX (va 4) noV noV))))) nxE) (rtF (evV cN))) nxE)) nxE)) (ae (rtN 3) nxE)))))
def ot (bc:Fn):Ev->Option Out:=(rtF (evV (aa (xm true) (clF bc (x2 (va 0) (va 1))) cN)))
def la (F:List (List Nat)):List Nat:=F.getD (F.length-1) []
def lx (F:List (List Nat)):Nat:=(la F).getD ((la F).length-1) 0
def okG (S:List Int) (F:List (List Nat)) (x:Nat):Bool:=decide (0<F.length)&&(decide (lx F<x)==decide (S.getD (F.length-1) 0=1))
def grow (S:List Int) (F:List (List Nat)) (x:Nat):Option (List (List Nat)):=
 if okG S F x=true then some (F.set (F.length-1) (la F++[x]))else if F.length<S.length then some (F++[[x]])else none
def strt (S:List Int) (r:List Nat):Option (List (List Nat)):=r.foldlM (grow S) []
def JQ:Option (List (List Nat))->D
 |some F=>.lst (F.map rowD)
 |none=>.non
structure Gd (S:List Int) (k:Nat) (F:List (List Nat)):Prop where
 ne:∀p∈F,0<p.length
 le:F.length<=S.length
 lk:F.length<=k
 ll:∀p∈F,p.length<=k
theorem tF (h:0<F.length):la F∈F:=by
 unfold la;grind
theorem z7 {F:List (List Nat)} (h:0<F.length):la (F.set (F.length-1) p)=p:=by
 unfold la;grind
theorem u6 (F:List (List Nat)) (p:List Nat):la (F++[p])=p:=by simp[la]
theorem ou (p:List Nat) (x:Nat):(p++[x]).getD ((p++[x]).length-1) 0=x:=by simp
theorem kJ (h:okG S F x=true):0<F.length:=by grind [okG]
theorem kK (g:Gd S k F) (h:grow S F x=some F'):Gd S (k+1) F'/\0<F'.length/\lx F'=x:=by
 have gk:=g.lk;unfold grow at h;by_cases c:okG S F x=true
 ·rw[if_pos c]at h;cases h;have hp:=kJ c;have hm:=g.ll _ (tF hp);refine⟨⟨λp hp=>?_,by rw[List.length_set];exact g.le,by rw[List.length_set];omega,λp hp=>?_⟩,by rw[List.length_set];exact hp,?_⟩
  ·rcases List.mem_or_eq_of_mem_set hp with hp|rfl
   ·exact g.ne p hp
   ·rw[length_append];exact Nat.succ_pos _
  ·rcases List.mem_or_eq_of_mem_set hp with hp|rfl
   ·have:=g.ll p hp;omega
   ·rw[length_append];show _+1<=_;omega
  ·unfold lx;rw[z7 hp];exact ou _ _
 ·rw[if_neg c]at h;by_cases l:F.length<S.length
  ·rw[if_pos l]at h;cases h;refine⟨⟨λp hp=>?_,by rw[length_append];exact l,by rw[length_append];show _+1<=_;omega,λp hp=>?_⟩,by rw[length_append];exact Nat.succ_pos _,?_⟩
   ·rcases mem_append.mp hp with hp|hp
    ·exact g.ne p hp
    ·cases mem_singleton.mp hp;exact Nat.one_pos
   ·rcases mem_append.mp hp with hp|hp
    ·have:=g.ll p hp;omega
    ·cases mem_singleton.mp hp;show 1<=k+1;omega
   ·unfold lx;rw[u6];rfl
  ·rw[if_neg l]at h;cases h
theorem gd0 (S:List Int):Gd S 0 []:=by constructor<;>grind
theorem rA {α σ:Type} {step} {mk} (g:σ->α->Option σ) (I:Nat->σ->Ev->Prop):∀ (xs:List α) (i:Nat) (s:σ) (Y:Ev),I i s Y->
  (∀j x s Y,xs[j]?=some x->I (i+j) s Y->(∀s',g s x=some s'->∃Y',step (mk x) Y=some (.nx Y')/\I (i+j+1) s' Y')/\(g s x=none->step (mk x) Y=some (.rt r)))->
  (∀s',xs.foldlM g s=some s'->∃Y',iO step (xs.map mk) Y=some (.nx Y')/\I (i+xs.length) s' Y')/\(xs.foldlM g s=none->iO step (xs.map mk) Y=some (.rt r))
 |[],i,s,Y,h,_=>⟨λs' e=>by cases e;exact⟨Y,rfl,h⟩,λe=>by cases e⟩
 |x::xs,i,s,Y,h,hs=>by
  obtain⟨h1,h2⟩:=hs 0 x s Y rfl h;rw[List.foldlM_cons,List.map_cons];unfold iO;cases e:g s x with
  |none=>
   rw[h2 e];exact⟨λs' z=>(nomatch z),λ_=>rfl⟩
  |some s1=>
   obtain⟨Y1,e1,i1⟩:=h1 s1 e;rw[e1];have:=rA g I xs (i+1) s1 Y1 i1 (λj y s Y hy hi=>by
    have:=hs (j+1) y s Y (by simpa using hy) (by rwa [show i+(j+1)=i+1+j by omega]);rwa [show i+(j+1)+1=i+1+j+1 by omega]at this)
   rw[show i+1+xs.length=i+(x::xs).length by rw[length_cons];omega]at this;exact this
theorem z8 (h:0<n):ixN n (-1)=some (n-1):=by grind [ixN]
theorem DP {β:Type} {xs:List β} {mk} {x0} (h:0<xs.length):ixD (.lst (xs.map mk)) (.int (-1))=some (mk (xs.getD (xs.length-1) x0)):=by
 show atI (xs.map mk) (-1)=_;unfold atI;rw[length_map,z8 h,Option.bind_some,getElem?_map,List.getD_eq_getElem?_getD,getElem?_eq_getElem (show xs.length-1<xs.length by omega)];rfl
theorem u7 {β:Type} {xs:List β} {mk} {x0} (h:i<xs.length) (hz:z=(i:Int)):ixD (.lst (xs.map mk)) (.int z)=some (mk (xs.getD i x0)):=by
 subst hz;refine b7 ?_;grind
theorem Gs (h0:fR Y i=some (.deep,F.map rowD)) (hF:0<F.length) (hl:(la F).length<1000) (hR:R (shv Y)=some (iN x)):
  vQ i (ngF (cI 1)) R Y=some (.nx (Y.set i (dp (.lst ((F.set (F.length-1) (la F++[x])).map rowD))))):=by
 have e1:gN Y i=some (F.map rowD):=by
  unfold gN;rw[h0];rfl
 have e3:(F.map rowD)[F.length-1]?=some (rowD (la F)):=by
  rw[getElem?_map,getElem?_eq_getElem (show F.length-1<F.length by omega)];unfold la;rw[List.getD_eq_getElem?_getD,getElem?_eq_getElem (show F.length-1<F.length by omega)];rfl
 unfold vQ
 rw[e1]
 show(ixN (F.map rowD).length (-1)).bind _=_
 rw[length_map,z8 hF,Option.bind_some,e3,Option.bind_some]
 show(fW (.lst ((la F).map λ(k:Nat)=>D.int (k:Int)))).bind _=_
 show(lfO (R (shv Y))).bind _=_
 rw[hR]
 show(if((la F).map λ(k:Nat)=>D.int (k:Int)).length+1<big then _ else _)=_
 rw[if_pos (by rw[length_map];exact lt_of_le_of_lt (show(la F).length+1<=1000 by omega) (by decide)),List.map_set]
 show some (Out.nx (Y.set i (some (Cat.deep,D.lst ((F.map rowD).set (F.length-1) (D.lst (((la F).map λ(k:Nat)=>D.int (k:Int))++[iN x])))))))=some (Out.nx (Y.set i (some (Cat.deep,D.lst ((F.map rowD).set (F.length-1) (rowD (la F++[x])))))))
 unfold rowD
 grind
theorem eq_bb (a b:Bool):aF false (.bl a) (.bl b)=some (.bl (a==b)):=by cases a<;>cases b<;>rfl
def sGo (f:Fn):Prop:=∀ (s:Int) (b:Bool),f [.int s,.bl b]=dp (.bl (b==decide (s=1)))
theorem Ma:sGo (bj 2 2 oq):=λs b=>by
 refine ao rfl ?_;unfold oq;refine bt (evX_lf (d:=.bl (b==decide (s=1))) ?_ rfl);show aa (aF false) (va 1) (aa (aF false) (va 0) (cI 1)) [some (.int s),some (.bl b)]=_;simp only[sB,jQ,eq_bb];rfl
def CZ (fa f:Fn):Prop:=∀ (ps:List (List Pk)) (S:List Int) (r:List Nat) (n:Nat),fa [af ps]=dp (.lst (S.map D.int))->r.Perm (List.range n)->n<=24->f [af ps,rowD r]=dp (JQ (strt S r))
theorem i6 (F:List (List Nat)):bP [.lst (F.map rowD)]=some (.int (F.length:Int)):=by simp
theorem rB (S:List Int):bP [.lst (S.map D.int)]=some (.int (S.length:Int)):=by simp
theorem Gu (n:Nat):gtD (iN n) (.int 0)=some (.bl (decide (0<n))):=by simp
theorem JR (a b:Nat):gtD (iN a) (iN b)=some (.bl (decide (b<a))):=by simp
theorem mv (a b:Nat):ltD (iN a) (iN b)=some (.bl (decide (a<b))):=by simp
theorem JS (hgo:sGo go) (hir:pG ir):CZ fa (bj 2 5 (jZ go ir fa)):=λps S r n hf pm hn=>by
 have hs:aq 5 [af ps,rowD r]=[sn (af ps),sn (rowD r),none,none,none]:=rfl;have er:=hir r n pm hn;have hl:r.length=n:=by rw[pm.length_eq,length_range]
 have cnd:∀ (F:List (List Nat)) (x k:Nat),Gd S k F->lq (ar (aa gtD (lnF (va 3)) (cI 0))) (trF (clF go (x2 (aa ixD (va 2) (aa cg (lnF (va 3)) (cI 1))) (aa gtD (va 4) (aa ixD (aa ixD (va 3) (ngF (cI 1))) (ngF (cI 1))))))) [some (af ps),some (rowD r),some (.lst (S.map D.int)),some (.lst (F.map rowD)),some (iN x)]=some (okG S F x):=λF x k g=>by
  by_cases h:0<F.length
  ·have h1:=g.le;have i1:ixD (.lst (S.map D.int)) (.int ((F.length:Int)-1))=some (.int (S.getD (F.length-1) 0)):=u7 (by omega) (by omega);have i2:ixD (.lst (F.map rowD)) (.int (-1))=some (rowD (la F)):=DP h;have i3:ixD (rowD (la F)) (.int (-1))=some (iN (lx F)):=DP (mk:=λ(k:Nat)=>D.int (k:Int)) (g.ne _ (tF h));simp only[sB,uM,pw,i6,Gu,i1,i2,i3,JR,hgo _ _];unfold okG;rw[decide_eq_true h];rfl
  ·have e:okG S F x=false:=by unfold okG;rw[decide_eq_false h];rfl
   simp only[sB,i6,Gu,e,decide_eq_false h];rfl
 have L:=rA (step:=eP (eNm 4) (ae (ifS (lq (ar (aa gtD (lnF (va 3)) (cI 0))) (trF (clF go (x2 (aa ixD (va 2) (aa cg (lnF (va 3)) (cI 1))) (aa gtD (va 4) (aa ixD (aa ixD (va 3) (ngF (cI 1))) (ngF (cI 1)))))))) (ae (vQ 3 (ngF (cI 1)) (va 4)) nxE) (ae (ifS (ar (aa ltD (lnF (va 3)) (lnF (va 2)))) (ae (oX 3 (evX (lsF (dpF (x1 (va 4)))) (dpF (x1 (va 4))) (fLs (x1 (frX (va 4) noV noV))))) nxE) (rtF (evV cN))) nxE)) nxE))
  (mk:=λ(k:Nat)=>D.int (k:Int)) (grow S) (λk F Y=>Gd S k F/\∃o4,Y=[sn (af ps),sn (rowD r),dp (.lst (S.map D.int)),dp (.lst (F.map rowD)),o4]) (r:=(.deep,.non)) r 0 [] [sn (af ps),sn (rowD r),dp (.lst (S.map D.int)),dp (.lst []),none] ⟨gd0 S,none,rfl⟩ (by
   rintro j x F Y hx ⟨g,o4,rfl⟩;have hj:j<r.length:=(List.getElem?_eq_some_iff.mp hx).1;rw[Nat.zero_add]at g⊢;have hc:=cnd F x j g;refine⟨λF' e=>?_,λe=>?_⟩
   ·obtain⟨g',_,_⟩:=kK g e;unfold grow at e;by_cases c:okG S F x=true
    ·rw[if_pos c]at e;cases e;rw[c]at hc;have hp:=kJ c;have hm:=g.ll _ (tF hp);refine⟨[sn (af ps),sn (rowD r),dp (.lst (S.map D.int)),dp (.lst ((F.set (F.length-1) (la F++[x])).map rowD)),sn (iN x)],?_,g',_,rfl⟩;show(ae _ _) [sn (af ps),sn (rowD r),dp (.lst (S.map D.int)),dp (.lst (F.map rowD)),sn (iN x)]=_;exact(az ((gQ hc).trans ((az (Gs (F:=F) (x:=x) rfl hp (by omega) rfl)).trans rfl))).trans rfl
    ·rw[if_neg c]at e;by_cases l:F.length<S.length
     ·rw[if_pos l]at e;cases e;rw[Bool.eq_false_iff.mpr c]at hc;have gk:=g.lk;refine⟨[sn (af ps),sn (rowD r),dp (.lst (S.map D.int)),dp (.lst ((F++[[x]]).map rowD)),sn (iN x)],?_,g',_,rfl⟩;show(ae _ _) [sn (af ps),sn (rowD r),dp (.lst (S.map D.int)),dp (.lst (F.map rowD)),sn (iN x)]=_;refine(az ((eh hc).trans ((az ((gQ ?_).trans ((az (gD (ds:=F.map rowD) (ds0:=F.map rowD) (c0:=.deep) (d:=rowD [x]) rfl (evX_lfs (d:=rowD [x]) (ds:=[iN x]) rfl rfl rfl rfl) rfl ?_)).trans rfl))).trans rfl))).trans ?_
      ·show ar (aa ltD (lnF (va 3)) (lnF (va 2))) [some (af ps),some (rowD r),some (.lst (S.map D.int)),some (.lst (F.map rowD)),some (iN x)]=_;simp only[sB,i6,rB,mv,decide_eq_true l]
      ·rw[length_map];exact lt_of_le_of_lt (show F.length+1<=100 by omega) (by decide)
      ·rw[List.map_append];rfl
     ·rw[if_neg l]at e;cases e
   ·unfold grow at e;by_cases c:okG S F x=true
    ·rw[if_pos c]at e;cases e
    ·rw[if_neg c]at e;by_cases l:F.length<S.length
     ·rw[if_pos l]at e;cases e
     ·rw[Bool.eq_false_iff.mpr c]at hc;show(ae _ _) [sn (af ps),sn (rowD r),dp (.lst (S.map D.int)),dp (.lst (F.map rowD)),sn (iN x)]=_;refine aN ((eh hc).trans (aN ((eh ?_).trans rfl)));show ar (aa ltD (lnF (va 3)) (lnF (va 2))) [some (af ps),some (rowD r),some (.lst (S.map D.int)),some (.lst (F.map rowD)),some (iN x)]=_;simp only[sB,i6,rB,mv,decide_eq_false l])
 refine ao rfl ?_;rw[hs];unfold jZ;refine q_set (evX_call (d:=.lst (S.map D.int)) (e:=.lst (S.map D.int)) ?_ rfl rfl ?_) (bG ?_ (q_set (evX_lfs (d:=.lst []) (ds:=[]) (by simp) rfl (by simp) rfl) ?_))
 ·simp only[sB,hf]
 ·simp only[sB,hf];rfl
 ·simp only[sB,er];rfl
 ·have hJ:jX noV (va 1) (shv [sn (af ps),sn (rowD r),dp (.lst (S.map D.int)),dp (.lst []),none])=some (r.map λ(k:Nat)=>D.int (k:Int)):=by
   simp only[sB,bW,lZ,l5,iR,kz];rfl
  cases e:strt S r with
  |none=>
   refine aN ?_;show frF _ _ _ [sn (af ps),sn (rowD r),dp (.lst (S.map D.int)),dp (.lst []),none]=_;unfold frF orO vL;rw[hJ];simp only[Option.bind_some,L.2 e];rfl
  |some F=>
   obtain⟨Y',e1,_,o4,rfl⟩:=L.1 F e;refine(az (Y':=[sn (af ps),sn (rowD r),dp (.lst (S.map D.int)),dp (.lst (F.map rowD)),o4]) ?_).trans (aN rfl);show frF _ _ _ [sn (af ps),sn (rowD r),dp (.lst (S.map D.int)),dp (.lst []),none]=_;unfold frF orO vL;rw[hJ];simp only[Option.bind_some,e1]
end K20
namespace K20
open PySem PySem.Spec PyProof.Rows L2
def u8 (fa f:Fn):Prop:=∀ (ps:List (List Pk)) (S:List Int) (r:List Nat) (n:Nat),fa [af ps]=dp (.lst (S.map D.int))->r.Perm (List.range n)->n<=24->f [af ps,rowD r]=dp (.bl (strt S r).isSome)
theorem Gv (o:Option (List (List Nat))):xm true (JQ o) .non=some (.bl o.isSome):=by cases o<;>rfl
theorem Gw {fa st} (hst:CZ fa st):u8 fa (bj 2 2 (ot st)):=λps S r n hf pm hn=>by
 have e:=hst ps S r n hf pm hn;refine ao rfl ?_;unfold ot;refine bt (evX_lf (d:=.bl (strt S r).isSome) ?_ rfl);show aa (xm true) (clF st (x2 (va 0) (va 1))) cN [some (af ps),some (rowD r)]=_;simp only[sB,Lo,e,Gv]
end K20
namespace K20
open PySem PySem.Spec PyProof.Rows L2
def gf (aL:Fn):Ev->Option Out:=(rtF (evX (slF (clF aL (x1 (va 0))) noP (bv (biF oP (x2 (va 1) (cI 1))))) (oQ (clF aL (x1 (va 0))) noP (bv (biF oP (x2 (va 1) (cI 1))))) noV))
def gR (dO:Fn):Ev->Option Out:=(rtF (evV (ifF (trF (clF dO (x2 (aa ixD (va 0) (va 1)) (aa geD (va 3) (va 2))))) (va 1) (aa aE (va 1) (cI 1)))))
def ju (aW:Fn):Ev->Option Out:=(ae (ak 4 evE) (ae (frF (jR (x1 (lnF (aa ixD (va 1) (cI 0))))) (eNm 5) (ae (ak 6 (evC aW (x4 (va 0) (va 2) (va 3) (va 5)))) (ae (oX 4 (evV (ifF (ar (aa ltD (va 6) (lnF (va 0)))) (aa ixD (aa ixD (va 1) (va 6)) (va 5)) (cI 0)))) nxE))) (ae (rtN 4) nxE)))
noncomputable def j0 (bu:Fn):Ev->Option Out:=(rtF (evX (lsF (au [3] (jR (x1 (aa aE (lnF (aa ixD (va 1) (cI 0))) (cI 1)))) (gNm 3) tQ (biF oM (x1 (clF bu (x4 (va 0) (va 1) (va 2) (va 3))))))) (au [3] (jR (x1 (aa aE (lnF (aa ixD (va 1) (cI 0))) (cI 1)))) (gNm 3) tQ (biF oM (x1 (clF bu (x4 (va 0) (va 1) (va 2) (va 3)))))) (fCo [3] (jR (x1 (aa aE (lnF (aa ixD (va 1) (cI 0))) (cI 1)))) (gNm 3) tQ (frX (biF oM (x1 (clF bu (x4 (va 0) (va 1) (va 2) (va 3))))) noV (fNo (x1 (clF bu (x4 (va 0) (va 1) (va 2) (va 3)))))))))
noncomputable def gh (bT:Fn):Ev->Option Out:=(ae (ak 2 (evX (lsF (dpF (x1 (lsF (au [4] (jX noV (va 0)) (gNm 4) tQ (lsF (dpF (x1 (cI 1))))))))) (dpF (x1 (lsF (au [4] (jX noV (va 0)) (gNm 4) tQ (lsF (dpF (x1 (cI 1)))))))) (fLs (x1 (frX (lsF (au [4] (jX noV (va 0)) (gNm 4) tQ (lsF (dpF (x1 (cI 1)))))) (au [4] (jX noV (va 0)) (gNm 4) tQ (lsF (dpF (x1 (cI 1))))) (fCo [4] (jX noV (va 0)) (gNm 4) tQ (frX (lsF (dpF (x1 (cI 1)))) (dpF (x1 (cI 1))) (fLs (x1 (frX (cI 1) noV noV)))))))))) (ae (frF (jR (x1 (va 1))) (eNm 3) (ae (oX 2 (evX (lsF (au [5] (jR (x1 (lnF (va 0)))) (gNm 5) tQ (clF bT (x3 (va 0) (aa ixD (va 2) (va 3)) (va 5))))) (au [5] (jR (x1 (lnF (va 0)))) (gNm 5) tQ (clF bT (x3 (va 0) (aa ixD (va 2) (va 3)) (va 5)))) (fCo [5] (jR (x1 (lnF (va 0)))) (gNm 5) tQ (frX (clF bT (x3 (va 0) (aa ixD (va 2) (va 3)) (va 5))) noV (fCl bT (x3 (va 0) (aa ixD (va 2) (va 3)) (va 5))))))) nxE)) (ae (rtN 2) nxE)))
def gS:Ev->Option Out:=(rtF (evV (ifF (ar (aa (aF false) (aa ixD (va 0) (cI 0)) (cI 1))) (cI 0) (va 1))))
def gT (aY:Fn):Ev->Option Out:=(rtF (evV (ifF (ar (aa geD (va 2) (cI 0))) (aa ixD (aa ixD (aa ixD (va 1) (va 2)) (cI 0)) (clF aY (x2 (va 0) (va 2)))) (cI 0))))
def j3 (aX aZ ay:Fn):Ev->Option Out:=(ae (ak 2 (evC ay (x2 (va 0) (va 1)))) (rtF (evC aZ (x3 (va 2) (clF aX (x2 (va 2) (va 1))) (va 1)))))
abbrev itD (S:List Int):D:=.lst (S.map D.int)
def vec (k:Nat) (g:Nat->Nat):List D:=(List.range k).map λi=>D.int ((g i:Nat):Int)
def mat (n k:Nat) (g:Nat->Nat->Nat):List D:=(List.range n).map λa=>D.lst (vec k (g a))
theorem Gx (k:Nat) (g:Nat->Nat):lfL (vec k g)=true:=bM λd hd=>by
 obtain⟨p,_,rfl⟩:=List.mem_map.mp hd;rfl
theorem pM {k i:Nat} (h:i<k) (hz:z=(i:Int)):ixD (.lst (vec k g)) (.int z)=some (iN (g i)):=by
 subst hz;exact b7 (mk:=λi=>D.int ((g i:Nat):Int)) (by rw[List.getElem?_range h])
theorem pN {n k a:Nat} (h:a<n) (hz:z=(a:Int)):ixD (.lst (mat n k g)) (.int z)=some (.lst (vec k (g a))):=by
 subst hz;exact b7 (mk:=λa=>D.lst (vec k (g a))) (by rw[List.getElem?_range h])
theorem DQ {i:Nat} (h:i<S.length) (hz:z=(i:Int)):ixD (itD S) (.int z)=some (.int (S.getD i 0)):=by
 subst hz;refine b7 ?_;grind
theorem mw (S:List Int):bP [itD S]=some (.int (S.length:Int)):=by simp
theorem u9 (k:Nat) (g:Nat->Nat):bP [.lst (vec k g)]=some (iN k):=by unfold vec;rw[cU,jq,Option.bind_some,length_map,length_range]
theorem z9 (l:List Nat):qv (l.map λ(n:Nat)=>(n:Int))=((l.sum:Nat):Int):=by
 have:∀ (l:List Nat) (a:Int),(l.map λ(n:Nat)=>(n:Int)).foldl (·+·) a=a+((l.sum:Nat):Int):=λl=>by
  induction l with
  |nil=>intro a;simp
  |cons n l ih=>
   intro a;rw[List.map_cons,List.foldl_cons,ih,List.sum_cons];omega
 grind [qv]
theorem rC:∀l:List Nat,vH (l.map λ(n:Nat)=>D.int (n:Int))=some (l.map λ(n:Nat)=>(n:Int))
 |[]=>rfl
 |n::l=>by
  show(vH (l.map λ(n:Nat)=>D.int (n:Int))).bind _=_;rw[rC l];rfl
theorem Aa (l:List Nat):oM [.lst (l.map λ(n:Nat)=>D.int (n:Int))]=some (iN l.sum):=by
 show(vH (l.map λ(n:Nat)=>D.int (n:Int))).bind _=_;rw[rC,Option.bind_some,z9]
theorem vb (k:Nat) (g:Nat->Nat):oM [.lst (vec k g)]=some (iN (((List.range k).map g).sum)):=by
 have e:vec k g=((List.range k).map g).map λ(n:Nat)=>D.int (n:Int):=by unfold vec;rw[List.map_map];rfl
 rw[e,Aa]
theorem evX_fr {R L Sp} (h:frX R L Sp (vw Y)=some e):evX R L Sp Y=some ((.deep,e),Y):=by
 unfold evX orO dS;rw[h];rfl
theorem mx {R L Sp} (h1:R Y=some (.lst xs)) (h2:L Y=some xs) (h3:Sp Y=some (.lst xs)):frX R L Sp Y=some (.lst xs):=by
 unfold frX orO lfO oS;grind
theorem Gy {R Sp} (h1:R Y=some (.lst xs)) (h3:Sp Y=some (.lst xs)):frX R noV Sp Y=some (.lst xs):=by
 unfold frX orO lfO oS;simp_all
theorem vc (a b:Nat):geD (iN a) (iN b)=some (.bl (decide (b<=a))):=by simp
def sSf (f:Fn):Prop:=∀ (S:List Int) (s b p:Nat),s<S.length->f [itD S,iN s,iN b,iN p]=dp (iN (nxt S s (decide (b<=p))))
theorem Mb (hgo:sGo go):sSf (bj 4 4 (gR go)):=λS s b p hs=>by
 refine ao rfl ?_;unfold gR;refine bt (evX_lf (d:=iN (nxt S s (decide (b<=p)))) ?_ rfl);show ifF _ (va 1) (aa aE (va 1) (cI 1)) [some (itD S),some (iN s),some (iN b),some (iN p)]=_;have i1:=DQ (S:=S) (i:=s) (z:=(s:Int)) hs rfl;simp only[sB,lX,i1,vc,hgo _ _];unfold nxt;grind
abbrev tab (S:List Int) (l:Nat):D:=.lst (mat S.length (l+1) (W S l))
def gg (S:List Int) (l s b p:Nat):Nat:=if nxt S s (decide (b<=p))<S.length then W S l (nxt S s (decide (b<=p))) p else 0
def sCh (f:Fn):Prop:=∀ (S:List Int) (l s b:Nat),0<S.length->s<S.length->l<100->f [itD S,tab S l,iN s,iN b]=dp (.lst (vec (l+1) (gg S l s b)))
theorem Md (hsf:sSf sf):sCh (bj 4 7 (ju sf)):=λS l s b h0 hs hl=>by
 have hst:aq 7 [itD S,tab S l,iN s,iN b]=[sn (itD S),sn (tab S l),sn (iN s),sn (iN b),none,none,none]:=rfl;have i0:ixD (tab S l) (.int 0)=some (.lst (vec (l+1) (W S l 0))):=pN h0 rfl;have fin:∃a:Unit,ju sf [sn (itD S),sn (tab S l),sn (iN s),sn (iN b),none,none,none]=some (.rt (.deep,.lst (vec (l+1) (gg S l s b))))/\True:=by
  unfold ju;refine ax (evX_lfs (d:=.lst []) (ds:=[]) (by simp) rfl (by simp) rfl) (re (n:=l+1) (v:=λi=>(i:Int)) (λi Y=>∃o5 o6,Y=[sn (itD S),sn (tab S l),sn (iN s),sn (iN b),dp (.lst (vec i (gg S l s b))),o5,o6]) ?_ ⟨none,none,rfl⟩ ?_ ?_)
  ·refine f8 ?_;show(x1 (lnF (aa ixD (va 1) (cI 0))) [some (itD S),some (tab S l),some (iN s),some (iN b),none,none,none]).bind j8=_;simp only[sB,i0,u9];exact bR (by omega)
  ·rintro p Y hp ⟨o5,o6,rfl⟩;have e1:=hsf S s b p hs;refine ax (evX_lf (d:=iN (nxt S s (decide (b<=p)))) ?_ rfl) (mj (gD (ds:=vec p (gg S l s b)) (ds0:=vec p (gg S l s b)) (c0:=.deep) (d:=iN (gg S l s b p)) rfl (evX_lf ?_ rfl) rfl ?_) ⟨sn (iN p),dp (iN (nxt S s (decide (b<=p)))),?_⟩)
   ·simp only[sB,e1]
   ·simp only[sB];show ifF _ _ (cI 0) [some (itD S),some (tab S l),some (iN s),some (iN b),some (.lst (vec p (gg S l s b))),some (iN p),some (iN (nxt S s (decide (b<=p))))]=_;unfold gg;by_cases c:nxt S s (decide (b<=p))<S.length
    ·have j1:ixD (tab S l) (iN (nxt S s (decide (b<=p))))=some (.lst (vec (l+1) (W S l (nxt S s (decide (b<=p)))))):=pN c rfl;have j2:ixD (.lst (vec (l+1) (W S l (nxt S s (decide (b<=p)))))) (iN p)=some (iN (W S l (nxt S s (decide (b<=p))) p)):=pM hp rfl;rw[if_pos c];simp only[sB,lX,mw,mv,decide_eq_true c,j1,j2]
    ·rw[if_neg c];simp only[sB,lX,mw,mv,decide_eq_false c];rfl
   ·unfold vec;rw[length_map,length_range];exact lt_of_le_of_lt (show p+1<=200 by omega) (by decide)
   ·unfold vec;rw[List.range_succ,List.map_append];rfl
  ·rintro Y ⟨o5,o6,rfl⟩;exact⟨(),aN rfl,trivial⟩
 obtain⟨_,fin,_⟩:=fin;exact ao rfl (by rw[hst];exact fin)
theorem Me (S:List Int) (l s b:Nat):W S (l+1) s b=((List.range (l+1)).map (gg S l s b)).sum:=rfl
def sWf (f:Fn):Prop:=∀ (S:List Int) (l s:Nat),0<S.length->s<S.length->l<100->f [itD S,tab S l,iN s]=dp (.lst (vec (l+2) (W S (l+1) s)))
theorem Mg (hch:sCh ch):sWf (bj 3 4 (j0 ch)):=λS l s h0 hs hl=>by
 have hst:aq 4 [itD S,tab S l,iN s]=[sn (itD S),sn (tab S l),sn (iN s),none]:=rfl;have i0:ixD (tab S l) (.int 0)=some (.lst (vec (l+1) (W S l 0))):=pN h0 rfl;have hc:au [3] (jR (x1 (aa aE (lnF (aa ixD (va 1) (cI 0))) (cI 1)))) (gNm 3) tQ (biF oM (x1 (clF ch (x4 (va 0) (va 1) (va 2) (va 3))))) [some (itD S),some (tab S l),some (iN s),none]=some (vec (l+2) (W S (l+1) s)):=by
  refine aB (xs:=List.range (l+2)) (mk:=λ(i:Nat)=>D.int (i:Int)) (out:=λb=>D.int ((W S (l+1) s b:Nat):Int)) (f8 ?_) (λb hb=>?_) (by rw[length_range];exact lt_of_le_of_lt (show l+2<=200 by omega) (by decide))
  ·simp only[sB,i0,u9];exact bR (n:=l+2) (by omega)
  ·simp only[sB,hch S l s b h0 hs hl,vb,Me]
 refine ao rfl ?_;rw[hst];unfold j0;refine bt (evX_lfs (d:=.lst (vec (l+2) (W S (l+1) s))) (ds:=vec (l+2) (W S (l+1) s)) ?_ rfl ?_ (Gx _ _));all_goals simp_all
def tbs (S:List Int) (m:Nat):D:=.lst ((List.range m).map λl=>tab S l)
def sWl (f:Fn):Prop:=∀ (S:List Int) (m:Nat),0<S.length->S.length<256->m<90->f [itD S,iN m]=dp (tbs S (m+1))
theorem Mh (hwf:sWf wf):sWl (bj 2 6 (gh wf)):=λS m h0 hS hm=>by
 have hst:aq 6 [itD S,iN m]=[sn (itD S),sn (iN m),none,none,none,none]:=rfl;have hN:S.length<big:=Nat.lt_trans hS (by decide);have eS:S.map D.int=(List.range S.length).map λi=>D.int (S.getD i 0):=by
  conv=>lhs;rw[<-bQ 0 S]
  rw[List.map_map];rfl
 have hc0:∀F:Vv->Option D,(∀Y:Vv,F Y=some (.lst [.int 1]))->au [4] (jX noV (va 0)) (gNm 4) tQ F [some (itD S),some (iN m),none,none,none,none]=some (mat S.length 1 (W S 0)):=λF hF=>by
  refine aB (xs:=List.range S.length) (mk:=λi=>D.int (S.getD i 0)) (out:=λa=>D.lst (vec 1 (W S 0 a))) ?_ (λi _=>?_) (by rw[length_range];exact hN)
  ·rw[<-eS];simp only[sB,bW,jq]
  ·simp only[sB,hF];rfl
 have fin:∃a:Unit,gh wf [sn (itD S),sn (iN m),none,none,none,none]=some (.rt (.deep,tbs S (m+1)))/\True:=by
  unfold gh;refine ax (evX_fr (e:=tbs S 1) (mx (xs:=[tab S 0]) ?_ ?_ ?_)) (re (n:=m) (v:=λi=>(i:Int)) (λi Y=>∃o3,Y=[sn (itD S),sn (iN m),dp (tbs S (i+1)),o3,none,none]) ?_ ⟨none,rfl⟩ ?_ ?_)
  ·show lsF _ [some (itD S),some (iN m),none,none,none,none]=_;rw[lsF_a,dpF_a,zK,consX_a,lsF_a,hc0 (lsF (dpF (x1 (cI 1)))) λ_=>rfl];rfl
  ·show dpF _ [some (itD S),some (iN m),none,none,none,none]=_;rw[dpF_a,zK,consX_a,lsF_a,hc0 (lsF (dpF (x1 (cI 1)))) λ_=>rfl];rfl
  ·show fLs _ [some (itD S),some (iN m),none,none,none,none]=_;have e:frX (lsF (au [4] (jX noV (va 0)) (gNm 4) tQ (lsF (dpF (x1 (cI 1)))))) (au [4] (jX noV (va 0)) (gNm 4) tQ (lsF (dpF (x1 (cI 1))))) (fCo [4] (jX noV (va 0)) (gNm 4) tQ (frX (lsF (dpF (x1 (cI 1)))) (dpF (x1 (cI 1))) (fLs (x1 (frX (cI 1) noV noV))))) [some (itD S),some (iN m),none,none,none,none]=some (tab S 0):=by
    refine mx (xs:=mat S.length 1 (W S 0)) ?_ ?_ ?_
    ·rw[lsF_a,hc0 (lsF (dpF (x1 (cI 1)))) λ_=>rfl];rfl
    ·exact hc0 (lsF (dpF (x1 (cI 1)))) λ_=>rfl
    ·unfold fCo;rw[hc0 (frX (lsF (dpF (x1 (cI 1)))) (dpF (x1 (cI 1))) (fLs (x1 (frX (cI 1) noV noV)))) λ_=>rfl];rfl
   rw[DE,zK,consX_a,e];rfl
  ·refine f8 ?_;show(x1 (va 1) [some (itD S),some (iN m),none,none,none,none]).bind j8=_;simp only[sB];exact bR (by omega)
  ·rintro l Y hl ⟨o3,rfl⟩;have i1:ixD (tbs S (l+1)) (iN l)=some (tab S l):=b7 (mk:=λl=>tab S l) (by rw[List.getElem?_range (by omega)]);have hcl:∀F:Vv->Option D,(∀s,s<S.length->F [some (itD S),some (iN m),some (tbs S (l+1)),some (iN l),none,some (iN s)]=some (.lst (vec (l+2) (W S (l+1) s))))->au [5] (jR (x1 (lnF (va 0)))) (gNm 5) tQ F [some (itD S),some (iN m),some (tbs S (l+1)),some (iN l),none,none]=some (mat S.length (l+2) (W S (l+1))):=λF hF=>by
    refine aB (xs:=List.range S.length) (mk:=λ(i:Nat)=>D.int (i:Int)) (out:=λa=>D.lst (vec (l+2) (W S (l+1) a))) (f8 ?_) (λs hs=>?_) (by rw[length_range];exact hN)
    ·simp only[sB,mw];exact bR (by omega)
    ·simp only[sB,hF s (List.mem_range.mp hs)]
   have eC:∀s,s<S.length->clF wf (x3 (va 0) (aa ixD (va 2) (va 3)) (va 5)) [some (itD S),some (iN m),some (tbs S (l+1)),some (iN l),none,some (iN s)]=some (.lst (vec (l+2) (W S (l+1) s))):=λs hs=>by
    simp only[sB,i1,hwf S l s h0 hs (by omega)]
   have eF:∀s,s<S.length->frX (clF wf (x3 (va 0) (aa ixD (va 2) (va 3)) (va 5))) noV (fCl wf (x3 (va 0) (aa ixD (va 2) (va 3)) (va 5))) [some (itD S),some (iN m),some (tbs S (l+1)),some (iN l),none,some (iN s)]=some (.lst (vec (l+2) (W S (l+1) s))):=λs hs=>by
    refine Gy (eC s hs) ?_;simp only[sB,i1,hwf S l s h0 hs (by omega)];rfl
   refine mj (gD (ds:=(List.range (l+1)).map λl=>tab S l) (ds0:=(List.range (l+1)).map λl=>tab S l) (c0:=.deep) (d:=tab S (l+1)) rfl (evX_fr (mx (xs:=mat S.length (l+2) (W S (l+1))) ?_ ?_ ?_)) rfl ?_) ⟨sn (iN l),?_⟩
   ·show lsF _ [some (itD S),some (iN m),some (tbs S (l+1)),some (iN l),none,none]=_;rw[lsF_a,hcl _ eC];rfl
   ·exact hcl _ eC
   ·show fCo _ _ _ _ _ [some (itD S),some (iN m),some (tbs S (l+1)),some (iN l),none,none]=_;unfold fCo;rw[hcl _ eF];rfl
   ·rw[length_map,length_range];exact lt_of_le_of_lt (show l+1+1<=200 by omega) (by decide)
   ·unfold tbs;rw[List.range_succ (n:=l+1),List.map_append];rfl
  ·rintro Y ⟨o3,rfl⟩;exact⟨(),aN rfl,trivial⟩
 obtain⟨_,fin,_⟩:=fin;exact ao rfl (by rw[hst];exact fin)
def sFb (f:Fn):Prop:=∀ (S:List Int) (m:Nat),0<S.length->f [itD S,iN m]=dp (.int (((if S.getD 0 0=1 then 0 else m:Nat)):Int))
theorem Mi:sFb (bj 2 2 gS):=λS m h0=>by
 refine ao rfl ?_;unfold gS;refine bt (evX_lf (d:=.int (((if S.getD 0 0=1 then 0 else m:Nat)):Int)) ?_ rfl);show ifF _ (cI 0) (va 1) [some (itD S),some (iN m)]=_;have i1:=DQ (S:=S) (i:=0) (z:=0) h0 rfl;simp only[sB,lX,i1,jQ];grind
def sIa (f:Fn):Prop:=∀ (S:List Int) (m:Nat),0<S.length->f [itD S,tbs S (m+1),iN m]=dp (iN (W S m 0 (if S.getD 0 0=1 then 0 else m)))
theorem Mj (hfb:sFb fb):sIa (bj 3 3 (gT fb)):=λS m h0=>by
 refine ao rfl ?_;unfold gT;refine bt (evX_lf (d:=iN (W S m 0 (if S.getD 0 0=1 then 0 else m))) ?_ rfl);show ifF _ _ (cI 0) [some (itD S),some (tbs S (m+1)),some (iN m)]=_;have i1:ixD (tbs S (m+1)) (iN m)=some (tab S m):=b7 (mk:=λl=>tab S l) (by rw[List.getElem?_range (by omega)]);have i2:ixD (tab S m) (.int 0)=some (.lst (vec (m+1) (W S m 0))):=pN h0 rfl;have i3:ixD (.lst (vec (m+1) (W S m 0))) (.int (((if S.getD 0 0=1 then 0 else m:Nat)):Int))=some (iN (W S m 0 (if S.getD 0 0=1 then 0 else m))):=pM (by split<;>omega) rfl;have g0:geD (iN m) (.int 0)=some (.bl true):=by
  have:=vc m 0;rw[decide_eq_true (Nat.zero_le m)]at this;exact this
 simp only[sB,lX,g0,i1,i2,hfb S m h0,i3]
theorem tH (h0:A Y=some (.lst xs)) (h1:B Y=some (iN k)):slF A noP (bv B) Y=some (.lst (xs.take k)):=by
 have e:=iU xs id k;rw[List.map_id,List.map_id]at e;unfold slF orO qx oQ;simp[h0,h1,e]
theorem Gz (h0:A Y=some (.lst xs)) (h1:B Y=some (iN k)):oQ A noP (bv B) Y=some (xs.take k):=by
 have e:=iU xs id k;rw[List.map_id,List.map_id]at e;unfold oQ;simp[h0,h1,e]
def useS (S:List Int) (m:Nat):List Int:=S.take (max m 1)
def sUs (fa f:Fn):Prop:=∀ (ps:List (List Pk)) (S:List Int) (m:Nat),fa [af ps]=dp (itD S)->f [af ps,iN m]=dp (itD (useS S m))
theorem Ml:sUs fa (bj 2 2 (gf fa)):=λps S m hf=>by
 refine ao rfl ?_;unfold gf;have em:oP [iN m,.int 1]=some (iN (max m 1)):=by
  rw[FI];by_cases h:(1:Int)>(m:Int)
  ·rw[if_pos h];exact congrArg some (congrArg D.int (by omega))
  ·rw[if_neg h];exact congrArg some (congrArg D.int (by omega))
 have a0:clF fa (x1 (va 0)) [some (af ps),some (iN m)]=some (itD S):=by
  simp only[sB,hf]
 have a1:biF oP (x2 (va 1) (cI 1)) [some (af ps),some (iN m)]=some (iN (max m 1)):=by
  simp only[sB,em]
 have e1:oQ (clF fa (x1 (va 0))) noP (bv (biF oP (x2 (va 1) (cI 1)))) [some (af ps),some (iN m)]=some ((useS S m).map D.int):=by
  rw[Gz a0 a1,<-List.map_take];rfl
 have e2:slF (clF fa (x1 (va 0))) noP (bv (biF oP (x2 (va 1) (cI 1)))) [some (af ps),some (iN m)]=some (itD (useS S m)):=by
  rw[tH a0 a1,<-List.map_take];rfl
 exact bt (evX_lfs (d:=itD (useS S m)) (ds:=(useS S m).map D.int) e2 rfl e1 (pK _))
theorem i7 (h:0<S.length):0<(useS S m).length/\(useS S m).length<=S.length:=by
 unfold useS;rw[List.length_take];omega
def rows (S:List Int) (m:Nat):Nat:=W (useS S m) m 0 (if(useS S m).getD 0 0=1 then 0 else m)
def sMr (fa f:Fn):Prop:=∀ (ps:List (List Pk)) (S:List Int) (m:Nat),fa [af ps]=dp (itD S)->0<S.length->S.length<256->m<90->f [af ps,iN m]=dp (iN (rows S m))
theorem Mm (hwl:sWl wl) (hia:sIa ia) (hus:sUs fa us):sMr fa (bj 2 3 (j3 wl ia us)):=λps S m hf h0 hS hm=>by
 have hst:aq 3 [af ps,iN m]=[sn (af ps),sn (iN m),none]:=rfl;have e1:=hus ps S m hf;obtain⟨u1,u2⟩:=i7 (m:=m) h0;have e2:=hwl (useS S m) m u1 (by omega) hm;have e3:=hia (useS S m) m u1;refine ao rfl ?_;rw[hst];unfold j3;refine q_set (evX_call (d:=itD (useS S m)) (e:=itD (useS S m)) ?_ rfl rfl ?_) (bt (evX_lf (d:=iN (rows S m)) ?_ rfl))
 ·simp only[sB,e1]
 ·simp only[sB,e1];rfl
 ·simp only[sB,e2,e3];rfl
end K20
namespace K20
open PySem PySem.Spec PyProof.Rows L2
noncomputable def dW:Ev->Option Out:=(ae (ak 2 (evV (aa aE (lnF (va 0)) (va 1)))) (ae (frF (jX noV (va 0)) (eNm 3) (ae (ak 2 (evV (aa aT (aa aE (aa aE (aa bN (va 2) (va 2)) (aa bN (va 3) (cI 131))) (cI 17)) (cI 1000000000039)))) nxE)) (ae (ifS (ar (aa ltD (va 1) (lnF (va 0)))) (rtF (evV (aa aE (va 2) (aa ixD (va 0) (va 1))))) nxE) (ae (rtN 2) nxE))))
noncomputable def gi:Ev->Option Out:=(ae (ak 2 (evV (aa aT (aa bN (aa aT (aa aE (aa aE (va 0) (aa bN (cI 977) (va 1))) (cI 1)) (cI 1000000007)) (cI 48271)) (cI 998244353)))) (ae (ak 2 (evV (aa aT (aa bN (va 2) (va 2)) (cI 998244353)))) (rtF (evV (aa cO (aa aT (aa bN (aa aE (va 2) (aa bN (cI 40692) (aa aE (va 1) (cI 3)))) (cI 69621)) (cI 2147483647)) (cI 8))))))
def rD (f:Fn):Prop:=∀ (ns:List Int) (k:Nat),ns.length<=63->k<1000->∃v:Int,f [scD ns,iN k]=dp (.int v)
theorem GA:rD (bj 2 4 dW):=λns k hn hk=>by
 have hs:aq 4 [scD ns,iN k]=[sn (scD ns),sn (iN k),none,none]:=rfl;have L1:=gC (J:=jX noV (va 0)) (tg:=eNm 3) (F:=ae (ak 2 (evV (aa aT (aa aE (aa aE (aa bN (va 2) (va 2)) (aa bN (va 3) (cI 131))) (cI 17)) (cI 1000000000039)))) nxE) (ds:=ns.map D.int)
  (Y:=[sn (scD ns),sn (iN k),dp (.int ((ns.length:Int)+k)),none])
  (λi Y=>∃v o,0<=v/\v<1000000000039/\Y=[sn (scD ns),sn (iN k),dp (.int v),o]) (by simp) ⟨_,none,by omega,by omega,rfl⟩ (by
   rintro i d Y hd ⟨v,o,h1,h2,rfl⟩;rw[getElem?_map]at hd;cases hq:ns[i]? with
   |none=>rw[hq]at hd;cases hd
   |some p=>
    rw[hq]at hd;cases hd;refine⟨_,az (cy (evX_lf (d:=.int ((v*v+p*131+17)%1000000000039)) ?_ rfl)),⟨_,_,Int.emod_nonneg _ (by decide),Int.emod_lt_of_pos _ (by decide),rfl⟩⟩;simp[yY h1 h2,ei (show(-1000000:Int)<131 by decide) (show(131:Int)<1000000 by decide)];exact aP (by decide))
 obtain⟨Y1,e1,v,o,_,_,rfl⟩:=L1;have st0:ak 2 (evV (aa aE (lnF (va 0)) (va 1))) [sn (scD ns),sn (iN k),none,none]=some (.nx [sn (scD ns),sn (iN k),dp (.int ((ns.length:Int)+k)),none]):=cy (evX_lf (by simp) rfl);by_cases h:k<ns.length
 ·obtain⟨y,ey⟩:=Jq (ns:=ns) (i:=(k:Int)) (by omega) (by omega);refine⟨v+y,ao rfl ?_⟩;rw[hs];unfold dW;refine(az st0).trans ((az e1).trans (aN ((gQ ?_).trans (aN (dH (evX_lf ?_ rfl))))))
  ·have:(k:Int)<(ns.length:Int):=by omega
   simp[vw_o,this]
  ·simp[vw_o,ey]
 ·refine⟨v,ao rfl ?_⟩;rw[hs];unfold dW;refine(az st0).trans ((az e1).trans ((az ((eh ?_).trans rfl)).trans (aN rfl)));have:¬ (k:Int)<(ns.length:Int):=by omega
  simp[vw_o,this]
def rE (f:Fn):Prop:=∀ (c k:Int),0<=k->k<10000->∃v:Int,0<=v/\f [.int c,.int k]=dp (.int v)
theorem GB:rE (bj 2 3 gi):=λc k h0 h1=>by
 have hs:aq 3 [.int c,.int k]=[sn (.int c),sn (.int k),none]:=rfl;have m1:=md ((c+977*k+1)%1000000007*48271) (show(0:Int)<998244353 by decide);obtain⟨x,hx⟩:∃x,(c+977*k+1)%1000000007*48271%998244353=x:=⟨_,rfl⟩;rw[hx]at m1;refine⟨(x*x%998244353+40692*(k+3))*69621%2147483647/8,Int.ediv_nonneg (Int.emod_nonneg _ (by decide)) (by decide),ao rfl ?_⟩;rw[hs];unfold gi;refine(az (cy (evX_lf (d:=.int x) ?_ rfl))).trans ?_
 ·simp only[sB,ei (show -1000000<k by omega) (show k<1000000 by omega),Cp _ 1000000007 (by decide),ei (show(-1000000:Int)<48271 by decide) (show(48271:Int)<1000000 by decide),Cp _ 998244353 (by decide),hx]
 refine(az (cy (evX_lf (d:=.int (x*x%998244353)) ?_ rfl))).trans (aN (dH (evX_lf (d:=.int ((x*x%998244353+40692*(k+3))*69621%2147483647/8)) ?_ rfl)))
 ·simp only[sB,yY m1.1 (show x<1000000000039 by omega),Cp _ 998244353 (by decide)]
 ·simp only[sB,ei (show -1000000<k+3 by omega) (show k+3<1000000 by omega),ei (show(-1000000:Int)<69621 by decide) (show(69621:Int)<1000000 by decide),Cp _ 2147483647 (by decide),bA (show(0:Int)<8 by decide) (show(8:Int)<1073741824 by decide)]
end K20
namespace K20
open PySem PySem.Spec PyProof.Rows L2
noncomputable def my (aW bu aY aZ aV aX ay:Fn):Ev->Option Out:=(ae (ak 3 (evC ay (x2 (va 0) (va 1)))) (ae (ak 4 (evC aX (x2 (va 3) (va 1)))) (ae (ifS (dG (trF (clF aV (x3 (va 2) (cI 0) (aa cg (clF aZ (x3 (va 3) (va 4) (va 1))) (cI 1)))))) (ae noO' nxE) nxE) (ae (ak 5 (evX (liG (x1 (biF noD (x1 (va 1)))) (orO (lrF (x1 (va 1))) (l1F (x1 (biF noD (x1 (va 1))))))) (orO (lrF (x1 (va 1))) (l1F (x1 (biF noD (x1 (va 1)))))) (fNo (x1 (biF noD (x1 (va 1))))))) (ae (ak 6 evE) (ae (ak 7 (evV (cI 0))) (ae (ak 8 (evC aY (x2 (va 3) (va 1)))) (ae (ak 9 (evM 2 (evV (va 2)))) (ae (wlF (ar (aa gtD (lnF (va 5)) (cI 0))) (ae (ak 10 (evC bu (x4 (va 3) (aa ixD (va 4) (aa cg (lnF (va 5)) (cI 1))) (va 7) (va 8)))) (ae (ak 11 (evV (cI 0))) (ae (wlF (ar (aa geD (va 9) (aa ixD (va 10) (va 11)))) (ae (ak 9 (evV (aa cg (va 9) (aa ixD (va 10) (va 11))))) (ae (ak 11 (evV (aa aE (va 11) (cI 1)))) nxE))) (ae (ak 7 (evC aW (x4 (va 3) (va 7) (va 8) (va 11)))) (ae (ak 8 (evM 11 (evV (va 11)))) (ae (gpF 6 5 (va 11)) nxE))))))) (ae (rtN 6) nxE))))))))))
section
variable {f:Fn} {xs:Vv->Option (List D)} {Y:Ev} {ds:List D} {d:D}
theorem ev_cl (h:xs (vw Y)=some ds) (e:f ds=dp d) (nl:lfD d=false):evC f xs Y=some ((.deep,d),Y):=evX_call (by rw[clF_a,h,Option.bind_some,e];rfl) nl rfl (by rw[fCl_a,h,Option.bind_some,e];rfl)
theorem ev_cf (h:xs (vw Y)=some ds) (e:f ds=dp d) (nl:lfD d=true):evC f xs Y=some ((.deep,d),Y):=evX_lf (by rw[clF_a,h,Option.bind_some,e];rfl) nl
end
theorem lt_big (h:n<=1000):n<big:=lt_of_le_of_lt h (by decide)
def pre (g:Nat->Nat) (p:Nat):Nat:=((List.range p).map g).sum
theorem eX (g:Nat->Nat) (p:Nat):pre g (p+1)=pre g p+g p:=by
 unfold pre;rw[List.range_succ,List.map_append,List.sum_append];simp
theorem Ab (g:Nat->Nat) (h:p<=q):pre g p<=pre g q:=by
 induction q with
 |zero=>rw[Nat.le_zero.mp h];exact le_refl _
 |succ q ih=>
  rw[eX];rcases Nat.lt_or_ge q p with z|z
  ·have:p=q+1:=by omega
   rw[this,eX];exact le_refl _
  ·have:=ih z;omega
theorem Ac:∀ {n:Nat},r<pre g n->∃p,p<n/\pre g p<=r/\r<pre g p+g p
 |0,h=>absurd h (Nat.not_lt_zero _)
 |n+1,h=>by
  rw[eX]at h;by_cases c:r<pre g n
  ·obtain⟨p,h1,h2⟩:=Ac c;exact⟨p,by omega,h2⟩
  ·exact⟨n,Nat.lt_succ_self _,by omega,h⟩
theorem DR (S:List Int) (l s b:Nat):W S (l+1) s b=pre (gg S l s b) (l+1):=rfl
theorem DS:∀ (l s:Nat),s<S.length->0<W S l s (if S.getD s 0=1 then 0 else l)
 |0,s,_=>Nat.one_pos
 |l+1,s,h=>by
  have ih:=DS l s h;rw[DR];have key:∀p b,p<=l->nxt S s (decide (b<=p))=s->0<W S l s p->0<pre (gg S l s b) (l+1):=λp b hp hn hw=>by
   have h1:=Ab (gg S l s b) (show p+1<=l+1 by omega);rw[eX]at h1;have:gg S l s b p=W S l s p:=by unfold gg;rw[hn,if_pos h]
   omega
  by_cases c:S.getD s 0=1
  ·rw[if_pos c]at ih⊢;refine key 0 0 (Nat.zero_le _) ?_ ih;unfold nxt;rw[decide_eq_true c,decide_eq_true (le_refl 0)];rfl
  ·rw[if_neg c]at ih⊢;refine key l (l+1) (le_refl _) ?_ ih;unfold nxt;rw[decide_eq_false c,decide_eq_false (show¬l+1<=l by omega)];rfl
theorem Ad (h:0<S.length):0<rows S m:=DS m 0 (i7 h).1
theorem Ae (I:Nat->Ev->Prop) (hs:∀m Y,I (m+1) Y->c (vw Y)=some true/\∃Y',F Y=some (.nx Y')/\I m Y') (he:∀Y,I 0 Y->c (vw Y)=some false):∀ (m n:Nat) (Y:Ev),m<n->I m Y->∃Y',whF c F n Y=some (.nx Y')/\I 0 Y'
 |m,0,Y,h,_=>absurd h (Nat.not_lt_zero _)
 |0,n+1,Y,_,i=>⟨Y,by
   show(c (vw Y)).bind _=_;rw[he Y i];rfl,i⟩
 |m+1,n+1,Y,h,i=>by
  obtain⟨h1,Y1,h2,i1⟩:=hs m Y i;obtain⟨Y',e,i2⟩:=Ae I hs he m n Y1 (by omega) i1;refine⟨Y',?_,i2⟩;show(c (vw Y)).bind _=_;rw[h1,Option.bind_some,if_pos rfl,h2];exact e
theorem JT {α:Type} {out:α->Option Out} {P:α->Prop} (I:Nat->Ev->Prop) (m:Nat) (hm:m<400) (h0:I m Y) (hs:∀m Y,I (m+1) Y->c (vw Y)=some true/\∃Y',F Y=some (.nx Y')/\I m Y') (he:∀Y,I 0 Y->c (vw Y)=some false) (k:∀Y',I 0 Y'->∃a,G Y'=out a/\P a):∃a,ae (wlF c F) G Y=out a/\P a:=by
 obtain⟨Y',e,i⟩:=Ae I hs he m 400 Y hm h0;exact js (show wlF c F Y=_ from e) (k Y' i)
theorem c9 (r:List Nat):bP [rowD r]=some (.int (r.length:Int)):=by rw[cU,show seqD (rowD r)=some (r.map λ(k:Nat)=>D.int (k:Int))from rfl,Option.bind_some,length_map]
theorem Af {m l:Nat} (h:l<m) (hz:z=(l:Int)):ixD (tbs S m) (.int z)=some (tab S l):=by
 subst hz;exact b7 (mk:=λl=>tab S l) (by rw[List.getElem?_range h])
abbrev sR (d0 d1 d2:D) (U:List Int) (m:Nat) (L R:List Nat) (s b r:Nat) (o10 o11:Option Sl):Ev:=[sn d0,sn d1,sn d2,dp (itD U),dp (tbs U (m+1)),dp (rowD L),dp (rowD R),dp (iN s),dp (iN b),dp (iN r),o10,o11]
theorem GC (hi:gI Y i=dp (rowD Rr)) (hj:gI Y j=dp (rowD L)) (hij:i≠j) (hR:R (vw Y)=some (iN p)) (hp:p<L.length) (h1:L.length<=100) (h2:Rr.length<=100):
  gpF i j R Y=some (.nx ((Y.set j (dp (rowD (L.eraseIdx p)))).set i (dp (rowD (Rr++[L.getD p 0]))))):=by
 have d1:gN Y i=some (Rr.map λ(k:Nat)=>D.int (k:Int)):=by unfold gN;rw[show fR Y i=some (.deep,Rr.map λ(k:Nat)=>D.int (k:Int))by unfold fR;rw[hi];rfl];rfl
 have d2:gN Y j=some (L.map λ(k:Nat)=>D.int (k:Int)):=by unfold gN;rw[show fR Y j=some (.deep,L.map λ(k:Nat)=>D.int (k:Int))by unfold fR;rw[hj];rfl];rfl
 unfold gpF
 rw[d1,Option.bind_some,d2,Option.bind_some,hR,Option.bind_some]
 have e1:qG (L.map λ(k:Nat)=>D.int (k:Int)).length (iN p)=some p:=by
  rw[length_map];show(if 0<=(p:Int)/\(p:Int)<=(L.length:Int)then some (p:Int).toNat else none)=_;rw[if_pos ⟨by omega,by omega⟩,Int.toNat_natCast]
 have e2:(L.map λ(k:Nat)=>D.int (k:Int))[p]?=some (iN (L.getD p 0)):=by rw[getElem?_map,getElem?_eq_getElem hp,List.getD_eq_getElem?_getD,getElem?_eq_getElem hp];rfl
 rw[e1,Option.bind_some,e2,Option.bind_some,if_pos ⟨hij,rfl,by rw[length_map];exact lt_big (by omega),by rw[length_map];exact lt_big (by omega)⟩]
 have e3:(L.map λ(k:Nat)=>D.int (k:Int)).eraseIdx p=(L.eraseIdx p).map λ(k:Nat)=>D.int (k:Int):=by
  clear hp e1 e2 d2 hj h1 hR;induction L generalizing p with
  |nil=>rfl
  |cons a L ih=>cases p with
   |zero=>rfl
   |succ p=>show _::(L.map _).eraseIdx p=_::(L.eraseIdx p).map _;rw[ih]
 rw[e3]
 show some (Out.nx ((Y.set j (some (Cat.deep,D.lst _))).set i (some (Cat.deep,D.lst _))))=some (Out.nx ((Y.set j (some (Cat.deep,D.lst _))).set i (some (Cat.deep,D.lst _))))
 grind
def sRa (fa f:Fn):Prop:=∀ (ps:List (List Pk)) (S:List Int) (m v:Nat),fa [af ps]=dp (itD S)->0<S.length->S.length<256->m<=24->v<rows S m->∃d,f [af ps,iN m,iN v]=dp d
theorem Mo (hsf:sSf sf) (hch:sCh ch) (hfb:sFb fb) (hia:sIa ia) (hwi:fA wi) (hwl:sWl wl) (hus:sUs fa us):sRa fa (bj 3 12 (my sf ch fb ia wi wl us)):=λps S m v hf h0 hS hm hv=>by
 have e1:=hus ps S m hf;obtain⟨u1,u2⟩:=i7 (m:=m) h0;have hv:v<W (useS S m) m 0 (if(useS S m).getD 0 0=1 then 0 else m):=hv;generalize useS S m=U at e1 u1 u2 hv;have e2:=hwl U m u1 (by omega) (by omega);have e3:=hia U m u1;have e4:=hfb U m u1;have hs:aq 12 [af ps,iN m,iN v]=[sn (af ps),sn (iN m),sn (iN v),none,none,none,none,none,none,none,none,none]:=rfl;have key:∃s,my sf ch fb ia wi wl us [sn (af ps),sn (iN m),sn (iN v),none,none,none,none,none,none,none,none,none]=some (.rt (.deep,s))/\True:=by
  unfold my;refine ax (ev_cl (d:=itD U) (ds:=[af ps,iN m]) rfl e1 rfl) (ax (ev_cl (d:=tbs U (m+1)) (ds:=[itD U,iN m]) rfl e2 rfl) (rc ?_ ?_))
  ·show dG (trF (clF wi _)) [some (af ps),some (iN m),some (iN v),some (itD U),some (tbs U (m+1)),none,none,none,none,none,none,none]=_;have c1:decide ((0:Int)<=(v:Int))=true:=decide_eq_true (by omega);have c2:decide ((v:Int)<=((W U m 0 (if U.getD 0 0=1 then 0 else m):Nat):Int)-1)=true:=decide_eq_true (by omega);simp only[sB,e3,hwi (v:Int) 0,c1,c2];rfl
  ·have lr:orO (lrF (x1 (va 1))) (l1F (x1 (biF noD (x1 (va 1))))) [some (af ps),some (iN m),some (iN v),some (itD U),some (tbs U (m+1)),none,none,none,none,none,none,none]=some ((List.range m).map λ(k:Nat)=>D.int (k:Int)):=by
    unfold orO;rw[show lrF (x1 (va 1)) [some (af ps),some (iN m),some (iN v),some (itD U),some (tbs U (m+1)),none,none,none,none,none,none,none]=some ((List.range m).map λ(k:Nat)=>D.int (k:Int))from zI hm]
   refine ax (s:=(.deep,rowD (List.range m))) (evX_lfs (d:=rowD (List.range m)) (jU lr) rfl lr (bM λd hd=>by obtain⟨p,_,rfl⟩:=List.mem_map.mp hd;rfl)) (ax (s:=(.deep,rowD [])) (evX_lfs (d:=.lst []) (ds:=[]) rfl rfl rfl rfl) (ax (s:=(.deep,iN 0)) (evX_lf rfl rfl) (ax (ev_cf (ds:=[itD U,iN m]) rfl e4 rfl) (ax (s:=(.deep,iN v)) (evM_lf rfl rfl rfl) ?_))));show∃s,ae (wlF _ _) _ (sR (af ps) (iN m) (iN v) U m (List.range m) [] 0 (if U.getD 0 0=1 then 0 else m) v none none)=some (.rt (.deep,s))/\True;refine JT (λk Y=>∃L R s b r o10 o11,L.length=k/\R.length+k=m/\s<U.length/\r<W U k s b/\Y=sR (af ps) (iN m) (iN v) U m L R s b r o10 o11) m (by omega) ⟨List.range m,[],0,_,v,none,none,length_range,by simp,u1,hv,rfl⟩ ?_ ?_ ?_
   ·rintro l Y ⟨L,R,s,b,r,o10,o11,hL,hR,hs,hr,rfl⟩;have lg:∀o10 o11,ar (aa gtD (lnF (va 5)) (cI 0)) (vw (sR (af ps) (iN m) (iN v) U m L R s b r o10 o11))=some true:=λo10 o11=>by
     simp only[sB,sR,c9,pv];rw[decide_eq_true (by omega)]
    refine⟨lg o10 o11,?_⟩;have ec:=hch U l s b u1 hs (by omega);rw[DR]at hr;obtain⟨P,hP,p1,p2⟩:=Ac hr;refine ax (s:=(.deep,.lst (vec (l+1) (gg U l s b)))) (Y':=sR (af ps) (iN m) (iN v) U m L R s b r o10 o11) (ev_cl (ds:=[itD U,tab U l,iN s,iN b]) ?_ ec rfl) (ax (s:=(.deep,iN 0)) (evX_lf rfl rfl) ?_)
    ·simp only[sB,sR,c9,Af (m:=m+1) (l:=l) (show l<m+1 by omega) (show(L.length:Int)-1=(l:Int)by omega)]
    ·show∃a,ae (wlF _ _) _ (sR (af ps) (iN m) (iN v) U m L R s b r (dp (.lst (vec (l+1) (gg U l s b)))) (dp (iN 0)))=some (.nx a)/\_;refine JT (λk Y=>∃p,p+k=P/\Y=sR (af ps) (iN m) (iN v) U m L R s b (r-pre (gg U l s b) p) (dp (.lst (vec (l+1) (gg U l s b)))) (dp (iN p))) P (by omega) ⟨0,Nat.zero_add _,rfl⟩ ?_ ?_ ?_
     ·rintro k Y ⟨p,hp,rfl⟩;have q1:=Ab (gg U l s b) (show p+1<=P by omega);rw[eX]at q1;have iv:ixD (.lst (vec (l+1) (gg U l s b))) (iN p)=some (iN (gg U l s b p)):=pM (by omega) rfl;refine⟨?_,ax (s:=(.deep,iN (r-pre (gg U l s b) (p+1)))) (Y':=sR (af ps) (iN m) (iN v) U m L R s b (r-pre (gg U l s b) p) (dp (.lst (vec (l+1) (gg U l s b)))) (dp (iN p))) (evX_lf ?_ rfl) (ax (s:=(.deep,iN (p+1))) (Y':=sR (af ps) (iN m) (iN v) U m L R s b (r-pre (gg U l s b) (p+1)) (dp (.lst (vec (l+1) (gg U l s b)))) (dp (iN p))) (evX_lf ?_ rfl) (jV ⟨p+1,by omega,rfl⟩))⟩
      ·simp only[sB,sR,iv,vc];rw[decide_eq_true (by omega)]
      ·simp only[sB,sR,iv];rw[eX];exact congrArg some (congrArg D.int (by omega))
      ·simp only[sB,sR];rfl
     ·rintro Y ⟨p,hp,rfl⟩;have hp:p=P:=by omega
      subst hp;have iv:ixD (.lst (vec (l+1) (gg U l s b))) (iN p)=some (iN (gg U l s b p)):=pM (by omega) rfl;simp only[sB,sR,iv,vc];rw[decide_eq_false (by omega)]
     ·rintro Y ⟨p,hp,rfl⟩;have hp:p=P:=by omega
      subst hp;have lt:r-pre (gg U l s b) p<gg U l s b p:=by omega
      have fu:nxt U s (decide (b<=p))<U.length/\r-pre (gg U l s b) p<W U l (nxt U s (decide (b<=p))) p:=by
       unfold gg at lt;split at lt
       ·rename_i c;exact⟨c,lt⟩
       ·omega
      refine ax (s:=(.deep,iN (nxt U s (decide (b<=p))))) (Y':=sR (af ps) (iN m) (iN v) U m L R s b (r-pre (gg U l s b) p) (dp (.lst (vec (l+1) (gg U l s b)))) (dp (iN p))) (ev_cf (ds:=[itD U,iN s,iN b,iN p]) rfl (hsf U s b p hs) rfl) ?_;refine ax (s:=(.deep,iN p)) (Y':=sR (af ps) (iN m) (iN v) U m L R (nxt U s (decide (b<=p))) b (r-pre (gg U l s b) p) (dp (.lst (vec (l+1) (gg U l s b)))) (dp (iN p))) (evM_lf rfl rfl rfl) ?_;exact mj (GC (L:=L) (Rr:=R) (p:=p) rfl rfl (by decide) rfl (by omega) (by omega) (by omega)) ⟨L.eraseIdx p,R++[L.getD p 0],nxt U s (decide (b<=p)),p,r-pre (gg U l s b) p,dp (.lst (vec (l+1) (gg U l s b))),dp (iN p),by rw[List.length_eraseIdx_of_lt (by omega)];omega,by rw[length_append];show R.length+1+l=m;omega,fu.1,fu.2,rfl⟩
   ·rintro Y ⟨L,R,s,b,r,o10,o11,hL,hR,hs,hr,rfl⟩;simp only[sB,sR,c9,pv];rw[decide_eq_false (by omega)]
   ·rintro Y ⟨L,R,s,b,r,o10,o11,hL,hR,hs,hr,rfl⟩;exact⟨_,rfl,trivial⟩
 obtain⟨s,e,_⟩:=key;exact⟨s,ao rfl (by rw[hs];exact e)⟩
end K20
namespace K20
open PySem PySem.Spec PyProof.Rows L2
noncomputable def gj (aW bu aY aX ay bf:Fn):Ev->Option Out:=(ae (ifS (dG (trF (clF bf (x2 (va 0) (va 1))))) (ae noO' nxE) nxE) (ae (ak 2 (evC ay (x2 (va 0) (lnF (va 1))))) (ae (ak 3 (evC aX (x2 (va 2) (lnF (va 1))))) (ae (ak 4 (evX (liG (x1 (va 1)) (s1F (x1 (va 1)))) (s1F (x1 (va 1))) (fNo (x1 (va 1))))) (ae (ak 5 (evV (cI 0))) (ae (ak 6 (evC aY (x2 (va 2) (lnF (va 1))))) (ae (ak 7 (evV (cI 0))) (ae (frF (jX noV (va 1)) (eNm 8) (ae (ak 9 (evV (B4 (va 4) (va 8)))) (ae (yh 4 (va 9)) (ae (ak 7 (evV (aa aE (va 7) (biF oM (x1 (slF (clF bu (x4 (va 2) (aa ixD (va 3) (lnF (va 4))) (va 5) (va 6))) noP (bv (va 9)))))))) (ae (ak 5 (evC aW (x4 (va 2) (va 5) (va 6) (va 9)))) (ae (ak 6 (evM 9 (evV (va 9)))) nxE)))))) (ae (rtN 7) nxE)))))))))
theorem Ag (h:k<=n):qG n (iN k)=some k:=by simp_all [qG,iN]
theorem GD (h0:fR Y i=some (.deep,ds)) (hk:R (shv Y)=some (iN k)) (hkl:k<ds.length) (hl:ds.length<big):
  yh i R Y=some (.nx (Y.set i (dp (.lst (ds.eraseIdx k))))):=by
 unfold yh
 simp only[h0,hk,Option.bind_some,Ag (Nat.le_of_lt hkl)]
 rw[if_pos ⟨hkl,hl⟩]
 rfl
theorem Ah:∀ (L:List Nat) (p:Nat),(L.map λ(k:Nat)=>D.int (k:Int)).eraseIdx p=(L.eraseIdx p).map λ(k:Nat)=>D.int (k:Int)
 |[],_=>rfl
 |a::L,0=>rfl
 |a::L,p+1=>by
  show D.int (a:Int)::(L.map λ(k:Nat)=>D.int (k:Int)).eraseIdx p=D.int (a:Int)::(L.eraseIdx p).map λ(k:Nat)=>D.int (k:Int);rw[Ah L p]
theorem Ai:∀ {r:List Nat},a∈r->∃p,p<r.length/\r.getD p 0=a/\vX (a:Int) (r.map λ(k:Nat)=>(k:Int))=some p
 |[],h=>by cases h
 |x::r,h=>by
  unfold vX;rw[List.map_cons,List.findIdx?_cons];by_cases e:x=a
  ·subst e;exact⟨0,Nat.succ_pos _,rfl,by simp⟩
  ·have ha:a∈r:=(mem_cons.mp h).resolve_left (λz=>e z.symm);obtain⟨p,h1,h2,ih⟩:=Ai ha;unfold vX at ih;have e':((x:Int)==(a:Int))=false:=by simp;omega
   rw[e',ih];exact⟨p+1,Nat.succ_lt_succ h1,h2,rfl⟩
def Stt (U:List Int) (n:Nat) (F:List (List Nat)) (L:List Nat) (s b:Nat):Prop:=
 (F=[]/\s=0/\b=(if U.getD 0 0=1 then 0 else n)/\L.length<=n)\/(0<F.length/\s+1=F.length/\lx F ∉ L/\b=L.countP λz=>decide (z<lx F))
theorem GE (h:s<max n 1):(useS S n).getD s 0=S.getD s 0:=by grind [useS]
theorem Stt.lt (st:Stt (useS S n) n F L s b) (g:Gd S i F) (hi:i<=n) (h0:0<S.length):s<(useS S n).length:=by
 have h1:=g.le;have h2:=g.lk;grind [Stt,useS]
theorem C0 (g:Gd S i F) (hi:i<n) (st:Stt (useS S n) n F L s b) (hs:L.Pairwise (·<·)) (hp:p<L.length) (hx:L.getD p 0=x) (e:grow S F x=some F'):
  Stt (useS S n) n F' (L.eraseIdx p) (nxt (useS S n) s (decide (b<=p))) p:=by
 obtain⟨_,g2,g3⟩:=kK g e
 refine .inr ⟨g2,?_,by rw[g3,<-hx];exact Gn hs hp,by rw[g3,<-hx];exact(zT hs hp).symm⟩
 unfold grow at e
 rcases st with⟨rfl,rfl,rfl,hl⟩|⟨hF,hsF,hn,rfl⟩
 ·have c:¬okG S [] x=true:=λz=>absurd (kJ z) (by simp);rw[if_neg c]at e;split at e
  ·cases e;unfold nxt;by_cases q:(useS S n).getD 0 0=1
   ·rw[if_pos q,decide_eq_true q,decide_eq_true (Nat.zero_le p)];rfl
   ·rw[if_neg q,decide_eq_false q,decide_eq_false (show¬n<=p by omega)];rfl
  ·cases e
 ·have h2:=g.lk;have ed:decide ((L.countP λz=>decide (z<lx F))<=p)=decide (lx F<x):=by
   have:=zS hs hn hp;rw[hx]at this;by_cases c:lx F<x
   ·rw[decide_eq_true c,decide_eq_true (this.mp c)]
   ·rw[decide_eq_false c,decide_eq_false (λz=>c (this.mpr z))]
  rw[ed];have eo:okG S F x=(decide (lx F<x)==decide ((useS S n).getD s 0=1)):=by
   unfold okG;rw[decide_eq_true hF,Bool.true_and,GE (show s<max n 1 by omega),show s=F.length-1 by omega]
  unfold nxt;rw[<-eo];by_cases c:okG S F x=true
  ·rw[if_pos c]at e⊢;cases e;rw[List.length_set];exact hsF
  ·rw[if_neg c]at e⊢;split at e
   ·cases e;rw[length_append,hsF];rfl
   ·cases e
theorem GF (g:Nat->Nat) (h:p<=k):(vec k g).take p=vec p g:=by
 unfold vec;rw[<-List.map_take,List.take_range,Nat.min_eq_left h]
theorem Aj (hr:(strt S r).isSome=true) (hx:r[i]?=some x) (hF:(r.take i).foldlM (grow S) []=some F):∃F',grow S F x=some F'/\(r.take (i+1)).foldlM (grow S) []=some F':=by
 have hi:=(List.getElem?_eq_some_iff.mp hx).1;have e1:r.take (i+1)=r.take i++[x]:=by rw[List.take_succ,hx];rfl
 have e2:r=r.take (i+1)++r.drop (i+1):=(List.take_append_drop _ _).symm;have e3:(r.take (i+1)).foldlM (grow S) []=grow S F x:=by
  rw[e1,List.foldlM_append,hF];show(grow S F x).bind (λz=>some z)=_;cases grow S F x<;>rfl
 cases e:grow S F x with
 |some F'=>exact⟨F',rfl,e3.trans e⟩
 |none=>
  unfold strt at hr;rw[e2,List.foldlM_append,e3,e]at hr;cases hr
abbrev sN (d0 d1:D) (U:List Int) (m:Nat) (L:List Nat) (s b v:Nat) (o8 o9:Option Sl):Ev:=[sn d0,sn d1,dp (itD U),dp (tbs U (m+1)),dp (rowD L),dp (iN s),dp (iN b),dp (iN v),o8,o9]
def sNo (fa f:Fn):Prop:=∀ (ps:List (List Pk)) (S:List Int) (r:List Nat) (n:Nat),fa [af ps]=dp (itD S)->0<S.length->S.length<256->r.Perm (List.range n)->n<=24->(strt S r).isSome=true->∃d,f [af ps,rowD r]=dp d
theorem Mp (hsf:sSf sf) (hch:sCh ch) (hfb:sFb fb) (hwl:sWl wl) (hus:sUs fa us) (hco:u8 fa co):sNo fa (bj 2 10 (gj sf ch fb wl us co)):=λps S r n hf h0 hS pm hn hr=>by
 have e0:=hco ps S r n hf pm hn;rw[hr]at e0;have e1:=hus ps S n hf;have hl:r.length=n:=by rw[pm.length_eq,length_range]
 obtain⟨u1,u2⟩:=i7 (m:=n) h0;have e2:=hwl (useS S n) n u1 (by omega) (by omega);have e4:=hfb (useS S n) n u1;have nl:bP [rowD r]=some (iN n):=by rw[c9,hl]
 have hs:aq 10 [af ps,rowD r]=[sn (af ps),sn (rowD r),none,none,none,none,none,none,none,none]:=rfl;have key:∃s,gj sf ch fb wl us co [sn (af ps),sn (rowD r),none,none,none,none,none,none,none,none]=some (.rt (.deep,s))/\True:=by
  unfold gj;refine rc ?_ (ax (s:=(.deep,itD (useS S n))) (ev_cl (ds:=[af ps,iN n]) ?_ e1 rfl) (ax (s:=(.deep,tbs (useS S n) (n+1))) (ev_cl (ds:=[itD (useS S n),iN n]) ?_ e2 rfl) ?_))
  ·simp only[sB,e0];rfl
  ·simp only[sB,nl]
  ·simp only[sB,nl]
  ·have s1:s1F (x1 (va 1)) (vw [sn (af ps),sn (rowD r),dp (itD (useS S n)),dp (tbs (useS S n) (n+1)),none,none,none,none,none,none])=some ((List.range n).map λ(k:Nat)=>D.int (k:Int)):=by
    show(x1 (va 1) _).bind cM=_;simp only[sB,iP (q8 pm hn)]
   refine ax (s:=(.deep,rowD (List.range n))) (Y':=[sn (af ps),sn (rowD r),dp (itD (useS S n)),dp (tbs (useS S n) (n+1)),none,none,none,none,none,none]) (evX_lfs (d:=rowD (List.range n)) (jU s1) rfl s1 (bM λd hd=>by obtain⟨p,_,rfl⟩:=List.mem_map.mp hd;rfl)) (ax (s:=(.deep,iN 0)) (evX_lf rfl rfl) (ax (ev_cf (ds:=[itD (useS S n),iN n]) ?_ e4 rfl) (ax (s:=(.deep,iN 0)) (evX_lf rfl rfl) ?_)))
   ·simp only[sB,nl]
   ·show∃s,ae (frF _ _ _) _ (sN (af ps) (rowD r) (useS S n) n (List.range n) 0 (if(useS S n).getD 0 0=1 then 0 else n) 0 none none)=some (.rt (.deep,s))/\True;refine uW (xs:=r) (mk:=λ(k:Nat)=>D.int (k:Int)) (λi Y=>∃F L s b v o8 o9,(r.take i).foldlM (grow S) []=some F/\Gd S i F/\L.Pairwise (·<·)/\L.Perm (r.drop i)/\Stt (useS S n) n F L s b/\Y=sN (af ps) (rowD r) (useS S n) n L s b v o8 o9) ?_ ⟨[],List.range n,0,_,0,none,none,rfl,gd0 S,List.pairwise_lt_range,pm.symm,.inl ⟨rfl,rfl,rfl,by rw[length_range];exact le_refl _⟩,rfl⟩ ?_ ?_
    ·simp only[sB,sN,bW,lZ];rfl
    ·rintro i x Y hx ⟨F,L,s,b,v,o8,o9,hF,g,hs,hp,st,rfl⟩;have hi:=(List.getElem?_eq_some_iff.mp hx).1;obtain⟨F',eg,eF⟩:=Aj hr hx hF;have ed:r.drop i=x::r.drop (i+1):=by rw[List.drop_eq_getElem_cons hi,(List.getElem?_eq_some_iff.mp hx).2]
     rw[ed]at hp;have hLl:L.length=n-i:=by rw[hp.length_eq,length_cons,List.length_drop];omega
     obtain⟨p,p1,p2,p3⟩:=Ai (hp.mem_iff.mpr mem_cons_self);have st':=C0 g (by omega) st hs p1 p2 eg;have sl:=st.lt g (by omega) h0;have l':(L.eraseIdx p).length=n-i-1:=by rw[List.length_eraseIdx_of_lt p1];omega
     have ec:=hch (useS S n) (n-i-1) s b u1 sl (by omega);refine CS (Y1:=sN (af ps) (rowD r) (useS S n) n L s b v (sn (iN x)) o9) rfl (ax (s:=(.deep,iN p)) (Y':=sN (af ps) (rowD r) (useS S n) n L s b v (sn (iN x)) o9) (evX_lf ?_ rfl) (js (Y':=sN (af ps) (rowD r) (useS S n) n (L.eraseIdx p) s b v (sn (iN x)) (dp (iN p))) ((GD (ds:=L.map λ(k:Nat)=>D.int (k:Int)) (k:=p) rfl rfl (by rw[length_map];exact p1) (by rw[length_map];exact lt_big (by omega))).trans (by rw[Ah];rfl)) ?_))
     ·simp only[sB,sN,B4,show fW (rowD L)=some (L.map λ(k:Nat)=>D.int (k:Int))from rfl,iA,show L2.intD (iN x)=some (x:Int)from rfl,p3]
     ·have ec':clF ch (x4 (va 2) (aa ixD (va 3) (lnF (va 4))) (va 5) (va 6)) (vw (sN (af ps) (rowD r) (useS S n) n (L.eraseIdx p) s b v (sn (iN x)) (dp (iN p))))=some (.lst (vec (n-i-1+1) (gg (useS S n) (n-i-1) s b))):=by
       simp only[sB,sN,c9,l',Af (m:=n+1) (l:=n-i-1) (show n-i-1<n+1 by omega) rfl,ec]
      have es:slF (clF ch (x4 (va 2) (aa ixD (va 3) (lnF (va 4))) (va 5) (va 6))) noP (bv (va 9)) (vw (sN (af ps) (rowD r) (useS S n) n (L.eraseIdx p) s b v (sn (iN x)) (dp (iN p))))=some (.lst (vec p (gg (useS S n) (n-i-1) s b))):=by
       rw[tH ec' (k:=p) rfl,GF _ (by omega)]
      refine ax (s:=(.deep,iN (v+pre (gg (useS S n) (n-i-1) s b) p))) (Y':=sN (af ps) (rowD r) (useS S n) n (L.eraseIdx p) s b v (sn (iN x)) (dp (iN p))) (evX_lf ?_ rfl) ?_
      ·rw[bin2_a,biF_a,zK,consX_a,es,Option.bind_some,nilX_a,Option.bind_some,Option.bind_some,vb];rfl
      ·refine ax (s:=(.deep,iN (nxt (useS S n) s (decide (b<=p))))) (Y':=sN (af ps) (rowD r) (useS S n) n (L.eraseIdx p) s b (v+pre (gg (useS S n) (n-i-1) s b) p) (sn (iN x)) (dp (iN p))) (ev_cf (ds:=[itD (useS S n),iN s,iN b,iN p]) rfl (hsf (useS S n) s b p sl) rfl) ?_;refine ax (s:=(.deep,iN p)) (Y':=sN (af ps) (rowD r) (useS S n) n (L.eraseIdx p) (nxt (useS S n) s (decide (b<=p))) b (v+pre (gg (useS S n) (n-i-1) s b) p) (sn (iN x)) (dp (iN p))) (evM_lf rfl rfl rfl) (jV ⟨F',L.eraseIdx p,_,p,_,_,_,eF,(kK g eg).1,hs.sublist (List.eraseIdx_sublist _ _),?_,st',rfl⟩);have:=(iB p1).trans hp;rw[p2]at this;exact this.cons_inv
    ·rintro Y ⟨F,L,s,b,v,o8,o9,hF,g,hs,hp,st,rfl⟩;exact⟨_,rfl,trivial⟩
 obtain⟨s,e,_⟩:=key;exact⟨s,ao rfl (by rw[hs];exact e)⟩
end K20
namespace K20
open PySem PySem.Spec PyProof.Rows L2
def gm:Ev->Option Out:=(ae (ifS (ar (aa (aF false) (va 0) (cI 1))) (rtF (evV (aa ltD (va 1) (va 2)))) nxE) (rtF (evV (aa ltD (va 2) (va 1)))))
noncomputable def iC (cG:Fn):Ev->Option Out:=(ae (ak 2 (evX noV noV (dcO 0 true))) (ae (frF (jX noV (slF (va 0) noP (bv (aa aE (lnF (va 1)) (cI 1))))) (eNm 3) (ae (ak 4 (evX noV noV dcN)) (ae (yj 2 (eNm 5) (ae (qO 4 (va 5) (evV (cB true)) (cB true)) (ae (ak 6 (evV (aa aE (va 5) (cI 1)))) (ae (ak 7 (evV (aa ltD (va 5) (lnF (va 1))))) (ae (wlF (trF (va 7)) (ae (qO 4 (va 6) (evV (cB true)) (cB true)) (ae (ak 6 (evV (aa aE (va 6) (cI 1)))) (ae (ak 7 (evV (mW (aa leD (va 6) (lnF (va 1))) (clF cG (x3 (va 3) (aa ixD (va 1) (aa cg (va 6) (cI 2))) (aa ixD (va 1) (aa cg (va 6) (cI 1)))))))) nxE)))) nxE))))) (ae (ak 2 (evM 4 (evV (va 4)))) nxE)))) (rtF (evV (aa inD (lnF (va 1)) (va 2))))))
def gs (s:Int) (x y:Nat):Bool:=if s=1 then decide (x<y)else decide (y<x)
def Mn (s:Int) (r:List Nat) (a b:Nat):Prop:=∀i,a<=i->i+1<b->gs s (r.getD i 0) (r.getD (i+1) 0)=true
def Rc (S:List Int) (r:List Nat):Nat->Nat->Prop
 |0,b=>b=0
 |j+1,b=>∃e,Rc S r j e/\e<=b/\b<=r.length/\Mn (S.getD j 0) r e b
theorem Mn.sub (h:Mn s r a b) (h1:a<=c) (h2:d<=b):Mn s r c d:=λi hi hj=>h i (by omega) (by omega)
theorem Ak (h:b<=a+1):Mn s r a b:=λi hi hj=>absurd hj (by omega)
theorem DT:∀ {j b:Nat},Rc S r j b->b<=r.length
 |0,b,h=>by cases(show b=0 from h);exact Nat.zero_le _
 |j+1,b,⟨_,_,_,h,_⟩=>h
theorem Al (h:Rc S r j b) (hk:j<=k):Rc S r k b:=by
 induction k with
 |zero=>rwa [Nat.le_zero.mp hk]at h
 |succ k ih=>
  by_cases c:j=k+1
  ·rwa [c]at h
  ·exact⟨b,ih (by omega),le_refl _,DT h,Ak (by omega)⟩
theorem JU (h:0<F.length) (hx:x≠lx F):okG S F x=gs (S.getD (F.length-1) 0) (lx F) x:=by grind [lx,okG,gs]
def Gr (S:List Int) (r:List Nat) (i:Nat) (F:List (List Nat)):Prop:=i=0/\F=[]\/∃a,0<F.length/\a<i/\lx F=r.getD (i-1) 0/\Mn (S.getD (F.length-1) 0) r a i/\Rc S r (F.length-1) a/\∀e,Rc S r (F.length-1) e->e<=a
theorem GG (hs:s=S.getD k 0) (hx:r[i]?=some x) (ha:a<i) (hm:∀e,Rc S r k e->e<=a) (hn:gs s (r.getD (i-1) 0) x=false):∀b,Rc S r (k+1) b->b<=i:=λb ⟨e,h1,h2,h3,h4⟩=>by
 rcases Nat.lt_or_ge i b with z|z
 ·have:=h4 (i-1) (by have:=hm e h1;omega) (by omega);rw[show i-1+1=i by omega,show r.getD i 0=x by rw[List.getD_eq_getElem?_getD,hx];rfl,<-hs,hn]at this;cases this
 ·exact z
theorem Am (hn:r.Nodup) (h0:0<S.length):∀ (i:Nat),i<=r.length->(∀F,(r.take i).foldlM (grow S) []=some F->Gr S r i F)/\((r.take i).foldlM (grow S) []=none->∀b,Rc S r S.length b->b<r.length)
 |0,_=>⟨λF h=>by cases h;exact .inl ⟨rfl,rfl⟩,λh=>nomatch h⟩
 |i+1,hi=>by
  obtain⟨ih1,ih2⟩:=Am hn h0 i (by omega);have hx:r[i]?=some (r[i]'(by omega)):=getElem?_eq_getElem (by omega);generalize r[i]'(by omega)=x at hx;have gx:r.getD i 0=x:=by rw[List.getD_eq_getElem?_getD,hx];rfl
  have e1:r.take (i+1)=r.take i++[x]:=by rw[List.take_succ,hx];rfl
  rw[e1,List.foldlM_append];cases hF:(r.take i).foldlM (grow S) []with
  |none=>exact⟨λF h=>(nomatch h),λ_=>ih2 hF⟩
  |some F=>
   have e2:(some F>>=λz=>[x].foldlM (grow S) z)=grow S F x:=by
    show(grow S F x).bind (λz=>some z)=_;cases grow S F x<;>rfl
   rw[e2];have g1:=ih1 F hF;unfold grow;rcases g1 with⟨rfl,rfl⟩|⟨a,a1,a2,a3,a4,a5,a6⟩
   ·have c:¬okG S [] x=true:=λz=>absurd (kJ z) (by simp);rw[if_neg c,if_pos (show([]:List (List Nat)).length<S.length from h0)];refine⟨λF h=>?_,λh=>nomatch h⟩;cases h;refine .inr ⟨0,Nat.one_pos,Nat.one_pos,?_,Ak (le_refl _),rfl,λe h=>Nat.le_of_eq h⟩;show x=r.getD 0 0;exact gx.symm
   ·have hne:x≠lx F:=by
     rw[a3,<-gx];intro e;have h1:i<r.length:=by omega
     have h2:i-1<r.length:=by omega
     rw[List.getD_eq_getElem?_getD,List.getD_eq_getElem?_getD,getElem?_eq_getElem h1,getElem?_eq_getElem h2]at e;exact List.pairwise_iff_getElem.mp hn (i-1) i h2 h1 (by omega) e.symm
    rw[JU a1 hne];by_cases c:gs (S.getD (F.length-1) 0) (lx F) x=true
    ·rw[if_pos c];refine⟨λF' h=>?_,λh=>nomatch h⟩;cases h;refine .inr ⟨a,by rw[List.length_set];exact a1,by omega,?_,?_,by rw[List.length_set];exact a5,by rw[List.length_set];exact a6⟩
     ·unfold lx;rw[z7 a1,ou];exact gx.symm
     ·rw[List.length_set];intro j h1 h2;by_cases q:j+1<i
      ·exact a4 j h1 q
      ·have:j=i-1:=by omega
       subst this;rw[show i-1+1=i by omega,gx,<-a3];exact c
    ·rw[if_neg c];have top:=GG (S:=S) (k:=F.length-1) rfl hx a2 a6 (by rw[<-a3];exact Bool.eq_false_iff.mpr c);rw[show F.length-1+1=F.length by omega]at top;by_cases l:F.length<S.length
     ·rw[if_pos l];refine⟨λF' h=>?_,λh=>nomatch h⟩;cases h;have e3:(F++[[x]]).length-1=F.length:=by rw[length_append];rfl
      refine .inr ⟨i,by rw[length_append];exact Nat.succ_pos _,Nat.lt_succ_self _,?_,Ak (le_refl _),?_,by rw[e3];exact top⟩
      ·unfold lx;rw[u6];exact gx.symm
      ·rw[e3,show F.length=F.length-1+1 by omega];exact⟨a,a5,by omega,by omega,a4⟩
     ·rw[if_neg l];refine⟨λF' h=>(nomatch h),λ_ b hb=>?_⟩;have:=top b (rc_up' hb (by omega));omega
where rc_up' {S:List Int} {r:List Nat} {j k b:Nat} (h:Rc S r j b) (e:j <= k):Rc S r k b:=Al h e
theorem C1 (hn:r.Nodup) (h0:0<S.length):(strt S r).isSome=true↔Rc S r (min (r.length+1) S.length) r.length:=by
 obtain⟨h1,h2⟩:=Am hn h0 r.length (le_refl _);rw[List.take_length]at h1 h2;unfold strt;have up:∀ {j:Nat},j<=r.length->j<=S.length->Rc S r j r.length->Rc S r (min (r.length+1) S.length) r.length:=λa b h=>Al h (by omega);cases e:r.foldlM (grow S) []with
 |none=>
  refine⟨λz=>(nomatch z),λz=>?_⟩;have:=h2 e _ (Al z (Nat.min_le_right _ _));omega
 |some F=>
  refine⟨λ_=>?_,λ_=>rfl⟩;have g:Gd S r.length F:=by
   have:∀ (i:Nat) (F:List (List Nat)),i<=r.length->(r.take i).foldlM (grow S) []=some F->Gd S i F:=λi=>by
    induction i with
    |zero=>intro F _ h;cases h;exact gd0 S
    |succ i ih=>
     intro F hi h;have hx:r[i]?=some (r[i]'(by omega)):=getElem?_eq_getElem (by omega);rw[show r.take (i+1)=r.take i++[r[i]'(by omega)]by rw[List.take_succ,hx];rfl,List.foldlM_append]at h;cases hF:(r.take i).foldlM (grow S) []with
     |none=>rw[hF]at h;cases h
     |some F0=>
      rw[hF]at h;refine(kK (ih F0 (by omega) hF) (x:=r[i]'(by omega)) ?_).1;rw[<-h];show _=(grow S F0 _).bind (λz=>some z);cases grow S F0 _<;>rfl
   exact this r.length F (le_refl _) (by rw[List.take_length];exact e)
  have gl:=g.le;have gk:=g.lk;rcases h1 F e with⟨z,rfl⟩|⟨a,a1,a2,_,a4,a5,_⟩
  ·exact up (j:=0) (Nat.zero_le _) (Nat.zero_le _) z
  ·refine up gk gl ?_;rw[show F.length=F.length-1+1 by omega];exact⟨a,a5,by omega,le_refl _,a4⟩
def enD (ks:List Nat):D:=.dct (ks.map λ(k:Nat)=>(Sum.inl (k:Int):Key)) (ks.map λ_=>.bl true)
def inK (ks:List Nat) (k:Nat):List Nat:=if k∈ks then ks else ks++[k]
theorem vd:b∈inK ks k↔b∈ks\/b=k:=by grind [inK]
theorem An (h:ks.Nodup):(inK ks k).Nodup:=by grind [inK]
theorem Ao {ks:List Nat} (h:ks.Nodup) (hk:∀k∈ks,k<=n):ks.length<=n+1:=by
 have p:ks.Perm ((List.range (n+1)).filter λk=>decide (k∈ks)):=jW h (List.Pairwise.filter _ (List.pairwise_lt_range.imp λh=>Nat.ne_of_lt h)) λa=>by
  rw[List.mem_filter,List.mem_range,decide_eq_true_eq];exact⟨λh=>⟨by have:=hk a h;omega,h⟩,λh=>h.2⟩
 rw[p.length_eq];grind
theorem Ap (ks:List Nat) (k:Nat):lH (ks.map λ(k:Nat)=>(Sum.inl (k:Int):Key)) (.inl (k:Int))=decide (k∈ks):=by
 unfold lH;grind
theorem Mq (k:Key):∀ks:List Nat,List.zipWith (λj e=>if j=k then D.bl true else e) (ks.map λ(k:Nat)=>(Sum.inl (k:Int):Key)) (ks.map λ_=>D.bl true)=ks.map λ_=>.bl true:=by simp
theorem Aq (hY:gI Y i=dp (enD ks)) (hk:k (vw Y)=some (iN x)) (hl:ks.length<=100):
  qO i k g (cB true) Y=some (.nx (Y.set i (dp (enD (inK ks x))))):=by
 unfold qO xS
 rw[show j9 Y i=some (ks.map λ(k:Nat)=>(Sum.inl (k:Int):Key),ks.map λ_=>D.bl true)by unfold j9;rw[hY];rfl,hk]
 show(if lfL (ks.map λ_=>D.bl true)=true/\(ks.map λ(k:Nat)=>(Sum.inl (k:Int):Key)).length+1<big then _ else _)=_
 rw[if_pos ⟨bM λd hd=>by obtain⟨p,_,rfl⟩:=List.mem_map.mp hd;rfl,by rw[length_map];exact lt_big (by omega)⟩]
 unfold nZ jN enD inK
 rw[Ap]
 by_cases c:x∈ks
 all_goals simp_all
theorem JV (ks:List Nat) (n:Nat):inD (iN n) (enD ks)=some (.bl (decide (n∈ks))):=by
 have:=Ap ks n;unfold lH at this;show some (D.bl ((ks.map λ(k:Nat)=>(Sum.inl (k:Int):Key)).any λj=>decide (j=.inl (n:Int))))=_;rw[this]
theorem GH {α:Type} {out:α->Option Out} {P:α->Prop} (I:Nat->Ev->Prop) (hY:gI Y i=dp (enD ks)) (h0:I 0 (frzS [i] Y)) (hs:∀ (j x:Nat) (Y:Ev),ks[j]?=some x->I j Y->∃Y',F (Y.set s (sn (iN x)))=some (.nx Y')/\I (j+1) Y') (k:∀Y',I ks.length Y'->∃a,G Y'=out a/\P a):∃a,ae (yj i (eNm s) F) G Y=out a/\P a:=by
 obtain⟨Y',e,h⟩:=lV (step:=eP (eNm s) F) (ks.map λ(k:Nat)=>D.int (k:Int)) I _ h0 (λj d Y hd hi=>by
  rw[getElem?_map]at hd;cases hx:ks[j]? with
  |none=>rw[hx]at hd;cases hd
  |some x=>
   rw[hx]at hd;cases hd;obtain⟨Y',e,h⟩:=hs j x Y hx hi;refine⟨Y',?_,h⟩;exact e)
 rw[length_map]at h;refine js ?_ (k _ h);unfold yj;rw[show j9 Y i=some (ks.map λ(k:Nat)=>(Sum.inl (k:Int):Key),ks.map λ_=>D.bl true)by unfold j9;rw[hY];rfl,Option.bind_some];rw[show(ks.map λ(k:Nat)=>(Sum.inl (k:Int):Key)).map vW=ks.map λ(k:Nat)=>D.int (k:Int)by rw[List.map_map];rfl];exact e
theorem Ar (I:Nat->Ev->Prop) (Q:Ev->Prop) (hs:∀m Y,I m Y->(c (vw Y)=some false/\Q Y)\/(c (vw Y)=some true/\0<m/\∃Y',F Y=some (.nx Y')/\I (m-1) Y')):∀ (n m:Nat) (Y:Ev),m<n->I m Y->∃Y',whF c F n Y=some (.nx Y')/\Q Y'
 |0,m,Y,h,_=>absurd h (Nat.not_lt_zero _)
 |n+1,m,Y,h,i=>by
  rcases hs m Y i with⟨h1,q⟩|⟨h1,h2,Y1,h3,i1⟩
  ·refine⟨Y,?_,q⟩;show(c (vw Y)).bind _=_;rw[h1];rfl
  ·obtain⟨Y',e,q⟩:=Ar I Q hs n (m-1) Y1 (by omega) i1;refine⟨Y',?_,q⟩;show(c (vw Y)).bind _=_;rw[h1,Option.bind_some,if_pos rfl,h3];exact e
def sLg (f:Fn):Prop:=∀ (s:Int) (x y:Nat),f [.int s,iN x,iN y]=dp (.bl (gs s x y))
theorem Mr:sLg (bj 3 3 gm):=λs x y=>by
 refine ao rfl ?_;unfold gm gs;have st:aq 3 [.int s,iN x,iN y]=[sn (.int s),sn (iN x),sn (iN y)]:=rfl;rw[st];by_cases c:s=1
 ·rw[if_pos c];refine aN ((gQ ?_).trans (bt (evX_lf (mv x y) rfl)));simp only[sB,jQ,decide_eq_true c];rfl
 ·rw[if_neg c];refine bG ?_ (bt (evX_lf (mv y x) rfl));simp only[sB,jQ,decide_eq_false c];rfl
abbrev sC (S:List Int) (r:List Nat) (o2 o3 o4 o5 o6 o7:Option Sl):Ev:=[sn (itD S),sn (rowD r),o2,o3,o4,o5,o6,o7]
def GI (f:Fn):Prop:=∀ (S:List Int) (r:List Nat) (n:Nat),0<S.length->r.Perm (List.range n)->n<=24->f [itD S,rowD r]=dp (.bl (strt S r).isSome)
theorem JW (hgo:sLg go):GI (bj 2 8 (iC go)):=λS r n h0 pm hn=>by
 have hl:r.length=n:=by rw[pm.length_eq,length_range]
 have nd:r.Nodup:=pm.nodup_iff.mpr (List.pairwise_lt_range.imp λh=>Nat.ne_of_lt h);have nl:bP [rowD r]=some (iN n):=by rw[c9,hl]
 have hs:aq 8 [itD S,rowD r]=sC S r none none none none none none:=rfl;have key:∃a:Unit,iC go (sC S r none none none none none none)=some (.rt (.deep,.bl (strt S r).isSome))/\True:=by
  unfold iC;refine ax (s:=(.deep,enD [0])) (Y':=sC S r none none none none none none) rfl (uW (xs:=S.take (n+1)) (mk:=D.int) (λj Y=>∃ks o3 o5 o6 o7,ks.Nodup/\(∀b,b∈ks↔Rc S r j b)/\Y=sC S r (dp (enD ks)) o3 none o5 o6 o7) ?_ ⟨[0],none,none,none,none,by simp,λb=>by rw[mem_singleton];exact Iff.rfl,rfl⟩ ?_ ?_)
  ·rw[bW,tH (xs:=S.map D.int) (k:=n+1) rfl ?_,<-List.map_take]
   ·rfl
   ·show aa aE (lnF (va 1)) (cI 1) [some (itD S),some (rowD r),none,none,none,none,none,none]=_;simp only[sB,nl];rfl
  ·rintro j s Y hs ⟨ks,o3,o5,o6,o7,k1,k2,rfl⟩;have es:S.getD j 0=s:=by
    rw[List.getElem?_take]at hs;split at hs
    ·rw[List.getD_eq_getElem?_getD,hs];rfl
    ·cases hs
   refine CS (Y1:=sC S r (dp (enD ks)) (sn (.int s)) none o5 o6 o7) rfl (ax (s:=(.deep,enD [])) (Y':=sC S r (dp (enD ks)) (sn (.int s)) none o5 o6 o7) rfl ?_);refine GH (ks:=ks) (λi Y=>∃M o5 o6 o7,M.Nodup/\(∀b,b∈M↔∃e,e∈ks.take i/\e<=b/\b<=n/\Mn s r e b)/\Y=sC S r (sn (enD ks)) (sn (.int s)) (dp (enD M)) o5 o6 o7) rfl ⟨[],o5,o6,o7,List.nodup_nil,λb=>⟨λh=>(nomatch h),λ⟨e,h,_⟩=>(nomatch h)⟩,rfl⟩ ?_ ?_
   ·rintro i x Y hx ⟨M,o5,o6,o7,m1,m2,rfl⟩;have xn:x<=n:=by
     have:=DT ((k2 x).mp (mem_of_getElem? hx));omega
    have mn:∀b∈M,b<=n:=λb hb=>by obtain⟨e,_,_,h,_⟩:=(m2 b).mp hb;exact h
    have ml:=Ao m1 mn;show∃Y',ae _ _ (sC S r (sn (enD ks)) (sn (.int s)) (dp (enD M)) (sn (iN x)) o6 o7)=some (.nx Y')/\_;refine js (Y':=sC S r (sn (enD ks)) (sn (.int s)) (dp (enD (inK M x))) (sn (iN x)) o6 o7) (Aq (ks:=M) (x:=x) rfl rfl (by omega)) (ax (s:=(.deep,iN (x+1))) (Y':=sC S r (sn (enD ks)) (sn (.int s)) (dp (enD (inK M x))) (sn (iN x)) o6 o7) (evX_lf ?_ rfl) (ax (s:=(.deep,.bl (decide (x<n)))) (Y':=sC S r (sn (enD ks)) (sn (.int s)) (dp (enD (inK M x))) (sn (iN x)) (dp (iN (x+1))) o7) (evX_lf ?_ rfl) ?_))
    ·simp only[sB,sC];rfl
    ·simp only[sB,sC,nl,mv]
    ·obtain⟨Y',e,q⟩:=Ar (c:=trF (va 7)) (F:=ae (qO 4 (va 6) (evV (cB true)) (cB true)) (ae (ak 6 (evV (aa aE (va 6) (cI 1)))) (ae (ak 7 (evV (mW (aa leD (va 6) (lnF (va 1))) (clF go (x3 (va 3) (aa ixD (va 1) (aa cg (va 6) (cI 2))) (aa ixD (va 1) (aa cg (va 6) (cI 1)))))))) nxE)))
      (λm Y=>∃at' g M',at'+m=n+1/\x<at'/\(g=true↔at'<=n/\Mn s r x at')/\Mn s r x (at'-1)/\M'.Nodup/\(∀b,b∈M'↔b∈M\/x<=b/\b<at')/\Y=sC S r (sn (enD ks)) (sn (.int s)) (dp (enD M')) (sn (iN x)) (dp (iN at')) (dp (.bl g)))
      (λY=>∃M' o6 o7,M'.Nodup/\(∀b,b∈M'↔b∈M\/x<=b/\b<=n/\Mn s r x b)/\Y=sC S r (sn (enD ks)) (sn (.int s)) (dp (enD M')) (sn (iN x)) o6 o7) (by
      rintro m Y ⟨at',g,M',a1,a2,a3,a4,a5,a6,rfl⟩
      cases g with
      |false=>
       refine .inl ⟨rfl,M',_,_,a5,λb=>?_,rfl⟩;rw[a6 b];refine⟨λh=>h.imp id λh=>⟨h.1,by omega,a4.sub (le_refl _) (by omega)⟩,λh=>h.imp id λh=>⟨h.1,?_⟩⟩;rcases Nat.lt_or_ge b at' with z|z
       ·exact z
       ·exact absurd (a3.mpr ⟨by omega,h.2.2.sub (le_refl _) z⟩) (by decide)
      |true=>
       obtain⟨a7,a8⟩:=a3.mp rfl;have ml':=Ao (n:=n) a5 (λb hb=>by
        rcases(a6 b).mp hb with h|h
        ·exact mn b h
        ·omega)
       have a9:Mn s r x (at'+1)↔gs s (r.getD (at'-1) 0) (r.getD at' 0)=true:=by
        constructor
        ·intro h;have:=h (at'-1) (by omega) (by omega);rwa [show at'-1+1=at' by omega]at this
        ·intro h i h1 h2;by_cases q:i+1<at'
         ·exact a8 i h1 q
         ·have:i=at'-1:=by omega
          subst this;rw[show at'-1+1=at' by omega];exact h
       refine .inr ⟨rfl,by omega,?_⟩;refine js (Y':=sC S r (sn (enD ks)) (sn (.int s)) (dp (enD (inK M' at'))) (sn (iN x)) (dp (iN at')) (dp (.bl true))) (Aq (ks:=M') (x:=at') rfl rfl (by omega)) (ax (s:=(.deep,iN (at'+1))) (Y':=sC S r (sn (enD ks)) (sn (.int s)) (dp (enD (inK M' at'))) (sn (iN x)) (dp (iN at')) (dp (.bl true))) (evX_lf ?_ rfl) (ax (s:=(.deep,.bl (decide (at'+1<=n)&&gs s (r.getD (at'-1) 0) (r.getD at' 0)))) (Y':=sC S r (sn (enD ks)) (sn (.int s)) (dp (enD (inK M' at'))) (sn (iN x)) (dp (iN (at'+1))) (dp (.bl true))) (evX_lf ?_ rfl) (jV ⟨at'+1,_,inK M' at',by omega,by omega,?_,a8,An a5,λb=>?_,rfl⟩)))
       ·simp only[sB,sC];rfl
       ·have le:leD (iN (at'+1)) (iN n)=some (.bl (decide (at'+1<=n))):=by
         rw[FH];by_cases q:at'+1<=n
         ·rw[decide_eq_true q,decide_eq_true (by omega)]
         ·rw[decide_eq_false q,decide_eq_false (by omega)]
        simp only[sB,sC,sY,nl,le];by_cases q:at'+1<=n
        ·have i1:ixD (rowD r) (.int (((at'+1:Nat):Int)-2))=some (iN (r.getD (at'-1) 0)):=u7 (mk:=λ(k:Nat)=>D.int (k:Int)) (show at'-1<r.length by omega) (by omega);have i2:ixD (rowD r) (.int (((at'+1:Nat):Int)-1))=some (iN (r.getD at' 0)):=u7 (mk:=λ(k:Nat)=>D.int (k:Int)) (show at'<r.length by omega) (by omega);simp only[sB,decide_eq_true q,i1,i2,hgo _ _ _,Bool.true_and]
        ·rw[decide_eq_false q];rfl
       ·rw[and_eq_true,decide_eq_true_eq,a9]
       ·rw[vd,a6 b];constructor
        ·rintro((h|h)|h)
         ·exact .inl h
         ·exact .inr ⟨h.1,by omega⟩
         ·exact .inr ⟨by omega,by omega⟩
        ·rintro(h|h)
         ·exact .inl (.inl h)
         ·by_cases q:b=at'
          ·exact .inr q
          ·exact .inl (.inr ⟨h.1,by omega⟩)) 400 (n-x) (sC S r (sn (enD ks)) (sn (.int s)) (dp (enD (inK M x))) (sn (iN x)) (dp (iN (x+1))) (dp (.bl (decide (x<n))))) (by omega) ⟨x+1,_,inK M x,by omega,Nat.lt_succ_self _,by
      rw[decide_eq_true_eq]
      exact⟨λh=>⟨h,Ak (by omega)⟩,λh=>h.1⟩,Ak (by omega),An m1,λb=>by
      rw[vd]
      exact⟨λh=>h.imp id λh=>⟨by omega,by omega⟩,λh=>h.imp id λh=>by omega⟩,rfl⟩
     ·refine js e (jV ?_);obtain⟨M',o6,o7,q1,q2,rfl⟩:=q;refine⟨M',_,o6,o7,q1,λb=>?_,rfl⟩;rw[q2 b,m2 b,List.take_add_one,hx];constructor
      ·rintro(⟨e,h1,h2⟩|h)
       ·exact⟨e,mem_append.mpr (.inl h1),h2⟩
       ·exact⟨x,mem_append.mpr (.inr mem_cons_self),h⟩
      ·rintro⟨e,h1,h2⟩;rcases mem_append.mp h1 with h1|h1
       ·exact .inl ⟨e,h1,h2⟩
       ·cases mem_singleton.mp h1;exact .inr h2
   ·rintro Y ⟨M,o5,o6,o7,m1,m2,rfl⟩;refine ax (s:=(.deep,enD M)) (Y':=sC S r (sn (enD ks)) (sn (.int s)) none o5 o6 o7) rfl (jV ⟨M,_,o5,o6,o7,m1,λb=>?_,rfl⟩);rw[m2 b,List.take_length];show _↔∃e,Rc S r j e/\e<=b/\b<=r.length/\Mn (S.getD j 0) r e b;rw[es,hl];exact exists_congr λe=>and_congr_left λ_=>k2 e
  ·rintro Y ⟨ks,o3,o5,o6,o7,k1,k2,rfl⟩;refine⟨(),bt (evX_lf ?_ rfl),trivial⟩;simp only[sB,sC,nl,JV];refine congrArg some (congrArg D.bl ?_);have e:=C1 (S:=S) nd h0;have e2:=k2 n;rw[List.length_take]at e2;rw[hl]at e;cases h:(strt S r).isSome with
   |true=>exact decide_eq_true (e2.mpr (e.mp h))
   |false=>exact decide_eq_false λz=>by rw[e.mpr (e2.mp z)]at h;cases h
 obtain⟨_,e,_⟩:=key;exact ao rfl (by rw[hs];exact e)
end K20
namespace K20
open PySem PySem.Spec PyProof.Rows L2
noncomputable def cz (fl:Str->Str->Bool):Ev->Option Str:=(frZ (jX noV (flF fl "passes" (va 0))) (eNm 1) (ae (ifS (trF (biF m6 (x1 (lsF (au [2,3] (jX noV (va 1)) (gTp 2 (aI (gNm 2) (aI (gNm 3) dh))) tQ (aa (aF false) (va 3) (cI 0))))))) (ae noO' nxE) nxE) nxE) (ifZ (trF (biF m6 (x1 (lsF (au [2,3] (jX noV (va 1)) (gTp 2 (aI (gNm 2) (aI (gNm 3) dh))) tQ (aa (aF false) (va 3) (cI 0))))))) (raZ "Shut") noZ))
def As (bE:Zf):Ev->Option Str:=(clZ (x1 (va 0)) bE)
def ke (bZ:Zf):Ev->Option Str:=(clZ (x1 (va 0)) bZ)
def pO (bd:Zf) (ay:Fn):Ev->Option Str:=(thZ (clZ (x2 (va 0) (va 1)) bd) (ak 2 (evC ay (x2 (va 0) (va 1)))) noZ)
def pP (bZ:Zf) (aL cH:Fn):Ev->Option Str:=(thZ (clZ (x1 (va 0)) bZ) (ak 2 (evC aL (x1 (va 0)))) (ifY noZ (dG (trF (clF cH (x1 (va 1))))) (raZ "BadRow") noZ))
def tI (bp:Zf):Ev->Option Str:=(clZ (x2 (va 0) (va 1)) bp)
def wu (bd:Zf) (ay aX aZ aV:Fn):Ev->Option Str:=(thZ (clZ (x2 (va 0) (va 1)) bd) (ak 3 (evC ay (x2 (va 0) (va 1)))) (thZ noZ (ak 4 (evC aX (x2 (va 3) (va 1)))) (ifY noZ (dG (trF (clF aV (x3 (va 2) (cI 0) (aa cg (clF aZ (x3 (va 3) (va 4) (va 1))) (cI 1)))))) (raZ "NoRow") noZ)))
def pQ (bx:Zf) (bf:Fn):Ev->Option Str:=(ifY (clZ (x2 (va 0) (va 1)) bx) (dG (trF (clF bf (x2 (va 0) (va 1))))) (raZ "NoRow") noZ)
noncomputable def gU (dm dk bb bf bc aL:Fn):Ev->Option Out:=(ae (ifS (ar (aa (aF false) (va 1) (cI 0))) (rtF (evC aL (x1 (va 0)))) nxE) (ae (ifS (ar (aa (aF false) (va 1) (cI 1))) (rtF (evC bc (x2 (va 0) (va 2)))) nxE) (ae (ifS (ar (aa (aF false) (va 1) (cI 2))) (rtF (evC bf (x2 (va 0) (va 2)))) nxE) (ae (ifS (ar (aa (aF false) (va 1) (cI 3))) (rtF (evC bb (x2 (va 0) (lnF (va 2))))) nxE) (ae (ifS (ar (aa (aF false) (va 1) (cI 4))) (rtF (evC dk (x3 (va 0) (lnF (va 2)) (va 3)))) nxE) (rtF (evC dm (x2 (va 0) (va 2)))))))))
noncomputable def cA (bZ:Zf) (aL:Fn) (bp:Zf) (bc:Fn) (bx:Zf) (bf:Fn) (b9:Zf) (bb:Fn) (d7:Zf) (dk:Fn) (cb:Zf):Ev->Option Str:=(thZ (ifZ (ar (aa (aF false) (va 1) (cI 0))) (clZ (x1 (va 0)) bZ) noZ) (ifS (ar (aa (aF false) (va 1) (cI 0))) (rtF (evC aL (x1 (va 0)))) nxE) (thZ (ifZ (ar (aa (aF false) (va 1) (cI 1))) (clZ (x2 (va 0) (va 2)) bp) noZ) (ifS (ar (aa (aF false) (va 1) (cI 1))) (rtF (evC bc (x2 (va 0) (va 2)))) nxE) (thZ (ifZ (ar (aa (aF false) (va 1) (cI 2))) (clZ (x2 (va 0) (va 2)) bx) noZ) (ifS (ar (aa (aF false) (va 1) (cI 2))) (rtF (evC bf (x2 (va 0) (va 2)))) nxE) (thZ (ifZ (ar (aa (aF false) (va 1) (cI 3))) (clZ (x2 (va 0) (lnF (va 2))) b9) noZ) (ifS (ar (aa (aF false) (va 1) (cI 3))) (rtF (evC bb (x2 (va 0) (lnF (va 2))))) nxE) (thZ (ifZ (ar (aa (aF false) (va 1) (cI 4))) (clZ (x3 (va 0) (lnF (va 2)) (va 3)) d7) noZ) (ifS (ar (aa (aF false) (va 1) (cI 4))) (rtF (evC dk (x3 (va 0) (lnF (va 2)) (va 3)))) nxE) (clZ (x2 (va 0) (va 2)) cb))))))
noncomputable def cC (cc:Fn) (bH:Zf) (tb:Str->Str->Option Bool):Ev->Option Out:=(ae (ak 4 (evV (cS "told"))) (ae (ak 5 evE) (ae (qX (ae (lC (clF cc (x4 (va 0) (va 1) (va 2) (va 3)))) nxE) (clZ (x4 (va 0) (va 1) (va 2) (va 3)) bH) (hdC (λx=>tb x "Shut") (λx=>hdX 6 (λa=>(ae (ak 4 (dS (lfE (cS "shut")))) (ae (ak 7 (dS (lfE (isN ((tb x "BadRow").bind λb=>(((tb x "NoRow").bind λb=>(((tb x "BadMill").bind λb=>(((tb x "BadPlan").bind λb=>((some false)).bind λd=>some (b||d))).bind λd=>some (b||d))).bind λd=>some (b||d))).bind λd=>some (b||d)) 6 a)))) (ae (ak 5 (dS (fLs (x3 (lfE (isN (tb x "MillError") 6 a)) (lfE (isN (tb x "ValueError") 6 a)) (lfE (va 7)))))) nxE))))) (hdC (λx=>tb x "BadRow") (λx=>hdX 6 (λa=>(ae (ak 4 (dS (lfE (cS "bad row")))) (ae (ak 7 (dS (lfE (isN ((tb x "Shut").bind λb=>(((tb x "NoRow").bind λb=>(((tb x "BadMill").bind λb=>(((tb x "BadPlan").bind λb=>((some false)).bind λd=>some (b||d))).bind λd=>some (b||d))).bind λd=>some (b||d))).bind λd=>some (b||d)) 6 a)))) (ae (ak 5 (dS (fLs (x3 (lfE (isN (tb x "MillError") 6 a)) (lfE (isN (tb x "ValueError") 6 a)) (lfE (va 7)))))) nxE))))) (hdC (λx=>tb x "NoRow") (λx=>hdX 6 (λa=>(ae (ak 4 (dS (lfE (cS "no row")))) (ae (ak 7 (dS (lfE (isN ((tb x "Shut").bind λb=>(((tb x "BadRow").bind λb=>(((tb x "BadMill").bind λb=>(((tb x "BadPlan").bind λb=>((some false)).bind λd=>some (b||d))).bind λd=>some (b||d))).bind λd=>some (b||d))).bind λd=>some (b||d)) 6 a)))) (ae (ak 5 (dS (fLs (x3 (lfE (isN (tb x "MillError") 6 a)) (lfE (isN (tb x "ValueError") 6 a)) (lfE (va 7)))))) nxE))))) (λ_ _=>none))))) (ae (ifS (lq (ar (aa (aF true) (va 4) (cS "told"))) (ar (aa (aF true) (va 5) (lsF (dpF (x3 (cB true) (cB true) (cB false))))))) (ae (ak 4 (evV (cS "another"))) nxE) nxE) (ae (rtN 4) nxE)))))
theorem mB (S:List Int):okL (S.map D.int)=true/\cJ (S.map D.int)<=0:=by
 induction S with
 |nil=>exact⟨rfl,le_refl _⟩
 |cons a S ih=>
  refine⟨?_,?_⟩
  ·show(okE (.int a)&&okL (S.map D.int))=true;rw[ih.1];rfl
  ·show max (dep (.int a)) (cJ (S.map D.int))<=0;have:dep (.int a)=0:=rfl;have:=ih.2;omega
theorem rF:∀a b:List Int,eqL (a.map D.int) (b.map D.int)=decide (a=b)
 |[],[]=>rfl
 |[],b::bs=>rfl
 |a::as,[]=>rfl
 |a::as,b::bs=>by
  show((a==b)&&eqL (as.map D.int) (bs.map D.int))=_;rw[rF as bs];by_cases h:a=b<;>by_cases h2:as=bs<;>simp[h,h2]
theorem GJ (a b:List Int):aF false (itD a) (itD b)=some (.bl (decide (a=b))):=by
 unfold aF gL;rw[show(aU (itD a)&&aU (itD b)&&mU (toV (itD a)) (toV (itD b)))=false from rfl,if_neg (by decide)];rw[if_pos (by
  show(true&&okL (a.map D.int)&&okL (b.map D.int)&&decide (cJ (a.map D.int)+1<=50))=true;have:=(mB a).2;rw[(mB a).1,(mB b).1,decide_eq_true (by omega)];rfl)]
 show some (D.bl (eqL (a.map D.int) (b.map D.int)))=_;rw[rF]
theorem rG:∀zs:List Int,dA (zs.map D.int)=some zs
 |[]=>rfl
 |z::zs=>by
  show(dA (zs.map D.int)).bind (λxs=>some (z::xs))=_;rw[rG zs];rfl
theorem JY (hn:n<=100):lrD [iN n]=some ((List.range n).map λ(k:Nat)=>D.int (k:Int)):=by
 show(if inR (n:Int)/\(n:Int)<1000000 then some (jh 0 (n:Int).toNat)else none)=_;rw[if_pos ⟨pA (by omega),by omega⟩,Int.toNat_natCast,tf]
theorem JZ (hn:n<=100) (h:ys Y=some [iN n]):orO (lrF ys) zs Y=some ((List.range n).map λ(k:Nat)=>D.int (k:Int)):=by
 have:lrF ys Y=some ((List.range n).map λ(k:Nat)=>D.int (k:Int)):=by
  unfold lrF;rw[h];exact JY hn
 unfold orO;rw[this]
theorem At (r:List Nat):rowD r=itD (r.map λ(k:Nat)=>(k:Int)):=by
 unfold rowD;rw[itD,List.map_map];rfl
def Bad (zs:List Int):Prop:=24<zs.length\/(∃z∈zs,¬ (0<=z/\z<=(zs.length:Int)-1))\/¬zs.Nodup
def GK (f:Fn):Prop:=∀zs:List Int,zs.length<=60->Bad zs->f [itD zs]=dp (.bl false)
theorem J0 (hw:fA w):GK (bj 1 2 (iX w)):=λzs hn bad=>by
 have hs:aq 2 [itD zs]=[sn (itD zs),none]:=rfl;have nl:=mw zs;have hc:orQ (dG (trF (biF iK (x2 (va 0) (tpF (x2 (cT "list") (cT "tuple"))))))) (ar (aa gtD (lnF (va 0)) (cD (.int 24)))) (vw [sn (itD zs),none])=some (decide (24<(zs.length:Int))):=by
  simp only[sB,yJ,qR,Jg,Jf,DF,yN,show cm (itD zs)=some "list"from rfl,List.any_cons,List.any_nil,yO,nl,pv];rfl
 refine ao rfl ?_;rw[hs];unfold iX;by_cases h24:24<zs.length
 ·rw[decide_eq_true (by omega)]at hc;exact aN ((gQ hc).trans (bt (evX_lf rfl rfl)))
 ·rw[decide_eq_false (by omega)]at hc;have hm:au [1] (jX noV (va 0)) (gNm 1) tQ (clF w (x3 (va 1) (cI 0) (aa cg (lnF (va 0)) (cI 1)))) [some (itD zs),none]=some (zs.map λz=>.bl (decide (0<=z)&&decide (z<=(zs.length:Int)-1))):=by
   refine aB (xs:=zs) (mk:=D.int) (out:=λz=>.bl (decide (0<=z)&&decide (z<=(zs.length:Int)-1))) (by simp only[sB,bW,jq]) (λk hk=>?_) (lt_big (by omega));simp only[sB,nl,hw k 0 ((zs.length:Int)-1)]
  refine bG hc (bt (evX_lf ?_ rfl));simp only[sB,sY,hm,iS zs λz=>decide (0<=z)&&decide (z<=(zs.length:Int)-1)];cases ha:zs.all λz=>decide (0<=z)&&decide (z<=(zs.length:Int)-1)with
  |false=>rfl
  |true=>
   have nd:¬zs.Nodup:=by
    rcases bad with h|⟨z,h1,h2⟩|h
    ·exact absurd h h24
    ·have:=List.all_eq_true.mp ha z h1;rw[and_eq_true,decide_eq_true_eq,decide_eq_true_eq]at this;exact absurd this h2
    ·exact h
   have s1:s1F (x1 (va 0)) [some (itD zs),none]=some ((jn zs).map D.int):=by
    show(x1 (va 0) _).bind cM=_;simp only[sB];refine iP ?_;show((dA (zs.map D.int)).bind λns=>if ns.length<64 then some ((jn ns).map D.int)else none)=_;rw[rG,Option.bind_some,if_pos (by omega)]
   simp only[if_true,bin2_a];rw[jU s1,jU (JZ (n:=zs.length) (by omega) (by simp only[sB,nl]))];show aF false (itD (jn zs)) (rowD (List.range zs.length))=_;rw[At,GJ,decide_eq_false λe=>nd ?_];have p:(jn zs).Perm zs:=List.mergeSort_perm _ _;refine p.nodup_iff.mp ?_;rw[e,List.Nodup,List.pairwise_map];exact List.pairwise_lt_range.imp λh=>by omega
def sh (ps:List (List Pk)):Bool:=ps.any λp=>p.any λk=>decide (k.2=0)
def shZ (ps:List (List Pk)):Option Str:=if sh ps=true then some "Shut"else none
theorem j4 (h:Wide ps):shZ ps=none:=by
 unfold shZ sh;rw[List.any_eq_false.mpr λp hp=>by
  rw[List.any_eq_false.mpr λk hk=>by have:=h p hp k hk;simp only[decide_eq_true_eq];omega];exact Bool.false_ne_true]
 rfl
theorem jv (h:zZ ps):shZ ps=some ("Shut":Str):=by
 obtain⟨p,hp,a,ha,h0⟩:=h;unfold shZ sh;grind
theorem rH {β:Type} {mk} {bad} {I:Ev->Prop}:∀ (xs:List β) (Y:Ev),I Y->(∀b∈xs,∀Y,I Y->(Z (mk b) Y=if bad b=true then some x else none)/\(bad b=false->∃Y',N (mk b) Y=some (.nx Y')/\I Y'))->eW N Z (xs.map mk) Y=if xs.any bad=true then some x else none
 |[],_,_,_=>rfl
 |b::xs,Y,hI,hs=>by
  obtain⟨h1,h2⟩:=hs b mem_cons_self Y hI;rw[List.map_cons,List.any_cons];unfold eW;rw[h1];cases e:bad b with
  |true=>rfl
  |false=>
   obtain⟨Y',h3,h4⟩:=h2 e;rw[if_neg (by decide),h3];exact rH xs Y' h4 λc hc=>hs c (mem_cons_of_mem _ hc)
theorem C2 {Y:Ev} {v:Option Str} (h:G Y=v) (h':G' Y=v):orO G G' Y=v:=by
 cases v with
 |some x=>exact zt h
 |none=>exact(zu h).trans h'
def rJ (z:Zf):Prop:=∀ps:List (List Pk),Valid ps->z [af ps]=shZ ps
theorem GL (hfl:fl "Mill" "passes"=true):rJ (iW 1 4 (cz fl)):=λqs hv=>by
 have hs:aq 4 [af qs]=[sn (af qs),none,none,none]:=rfl;have hf:mY fl "passes" (af qs)=some (aA qs):=by simp[mY,af,hfl]
 show cz fl (aq 4 [af qs])=_;rw[hs];unfold cz;have hJ:jX noV (flF fl "passes" (va 0)) [some (af qs),none,none,none]=some (qs.map tpD):=by
  simp only[sB,bW,DD,hf];rfl
 have hcnd:∀p∈qs,trF (biF m6 (x1 (lsF (au [2,3] (jX noV (va 1)) (gTp 2 (aI (gNm 2) (aI (gNm 3) dh))) tQ (aa (aF false) (va 3) (cI 0)))))) (vw [sn (af qs),sn (tpD p),none,none])=some (p.any λk=>decide (k.2=0)):=λp hp=>by
  have hpl:p.length<=6:=(hv.p hp).2.1;have hm:au [2,3] (jX noV (va 1)) (gTp 2 (aI (gNm 2) (aI (gNm 3) dh))) tQ (aa (aF false) (va 3) (cI 0)) [some (af qs),some (tpD p),none,none]=some (p.map λk=>.bl (decide (k.2=0))):=by
   refine aB (xs:=p) (mk:=pkD) (out:=λk=>.bl (decide (k.2=0))) (by simp only[sB,bW];rfl) (λk hk=>?_) (lt_of_le_of_lt hpl (by decide));show iL _ _ _ _ (.tup [.str (kd k.1),.int k.2])=_;simp
  simp only[sB,hm,q9 p λk=>decide (k.2=0)]
 have key:=rH (N:=eP (eNm 1) (ae (ifS (trF (biF m6 (x1 (lsF (au [2,3] (jX noV (va 1)) (gTp 2 (aI (gNm 2) (aI (gNm 3) dh))) tQ (aa (aF false) (va 3) (cI 0))))))) (ae noO' nxE) nxE) nxE)) (Z:=ka (eNm 1) (ifZ (trF (biF m6 (x1 (lsF (au [2,3] (jX noV (va 1)) (gTp 2 (aI (gNm 2) (aI (gNm 3) dh))) tQ (aa (aF false) (va 3) (cI 0))))))) (raZ "Shut") noZ)) (mk:=tpD) (x:="Shut") (bad:=λp=>p.any λk=>decide (k.2=0)) (I:=λY=>∃o1,Y=[sn (af qs),o1,none,none]) qs [sn (af qs),none,none,none] ⟨none,rfl⟩ (λp hp Y hI=>by
  obtain⟨o1,rfl⟩:=hI;have hc:=hcnd p hp;refine⟨?_,λhb=>⟨[sn (af qs),sn (tpD p),none,none],?_,⟨_,rfl⟩⟩⟩
  ·show(ifZ _ _ _) [sn (af qs),sn (tpD p),none,none]=_;exact CF hc
  ·rw[hb]at hc;show(ae _ _) [sn (af qs),sn (tpD p),none,none]=_;exact(az ((eh hc).trans rfl)).trans rfl)
 refine C2 ?_ ?_
 ·unfold foZ;rw[show shv [sn (af qs),none,none,none]=[some (af qs),none,none,none]from rfl,hJ];exact key
 ·unfold fzZ;rw[show vw [sn (af qs),none,none,none]=[some (af qs),none,none,none]from rfl,hJ];exact key
theorem Au (hz:rJ z):rJ (iW 1 3 (As z)):=λqs hv=>hz qs hv
def tK (z:Zf):Prop:=∀ (ps:List (List Pk)) (d:D),Valid ps->z [af ps,d]=shZ ps
theorem GM (hz:rJ z):tK (iW 2 2 (ke z)):=λqs d hv=>hz qs hv
theorem th_no:thZ z r noZ Y=z Y:=by
 unfold thZ orO;cases z Y with
 |some x=>rfl
 |none=>
  show(r Y).bind _=none;cases r Y with
  |none=>rfl
  |some o=>cases o<;>rfl
theorem C3 (hz:tK z):tK (iW 2 3 (pO z us)):=λqs d hv=>th_no.trans (hz qs d hv)
theorem Av (h:z Y=none) (hc:c (vw Y)=some t):ifY z c a b Y=if t=true then a Y else b Y:=(zu h).trans (CF hc)
def tL (fa ir:Fn) (z:Zf):Prop:=∀ (ps:List (List Pk)) (d:D),Valid ps->(∀x,shZ ps=some x->z [af ps,d]=some x)/\(shZ ps=none->∀ (S:List Int) (b:Bool),fa [af ps]=dp (itD S)->ir [d]=dp (.bl b)->z [af ps,d]=if b=true then none else some ("BadRow":Str))
theorem GN (hz:rJ z):tL fa ir (iW 2 5 (pP z fa ir)):=λps d hv=>by
 have h1:clZ (x1 (va 0)) z (aq 5 [af ps,d])=shZ ps:=hz ps hv;refine⟨λx e=>uT (h1.trans e),λe S b hf hr=>?_⟩;refine(uU (Y':=[sn (af ps),sn d,dp (itD S),none,none]) (h1.trans e) (cy (ev_cl (ds:=[af ps]) rfl hf rfl))).trans ?_;refine(Av (t:=!b) rfl ?_).trans (by cases b<;>rfl);simp_all
theorem C4 (hz:tL fa ir z):tL fa ir (iW 2 2 (tI z)):=λps d hv=>hz ps d hv
def GO (fa:Fn) (z:Zf):Prop:=∀ps:List (List Pk),Valid ps->(∀x d e,shZ ps=some x->z [af ps,d,e]=some x)/\(shZ ps=none->∀ (S:List Int) (m:Nat) (v:Int),fa [af ps]=dp (itD S)->0<S.length->S.length<256->m<=24->z [af ps,iN m,.int v]=if 0<=v/\v<(rows S m:Int)then none else some ("NoRow":Str))
theorem GP (hz:tK z) (hus:sUs fa us) (hwl:sWl wl) (hia:sIa ia) (hwi:fA wi):GO fa (iW 3 12 (wu z us wl ia wi)):=λps hv=>by
 have h1:∀d e,clZ (x2 (va 0) (va 1)) z (aq 12 [af ps,d,e])=shZ ps:=λd e=>hz ps d hv;refine⟨λx d e q=>uT ((h1 d e).trans q),λq S m v hf h0 hS hm=>?_⟩;have e1:=hus ps S m hf;obtain⟨u1,u2⟩:=i7 (m:=m) h0;have er:rows S m=W (useS S m) m 0 (if(useS S m).getD 0 0=1 then 0 else m):=rfl;generalize useS S m=U at e1 u1 u2 er;have e2:=hwl U m u1 (by omega) (by omega);have e3:=hia U m u1;rw[<-er]at e3;refine(uU (Y':=[sn (af ps),sn (iN m),sn (.int v),dp (itD U),none,none,none,none,none,none,none,none]) ((h1 _ _).trans q) (cy (ev_cl (ds:=[af ps,iN m]) rfl e1 rfl))).trans ?_;refine(uU (Y':=[sn (af ps),sn (iN m),sn (.int v),dp (itD U),dp (tbs U (m+1)),none,none,none,none,none,none,none]) rfl (cy (ev_cl (ds:=[itD U,iN m]) rfl e2 rfl))).trans ?_;refine(Av (t:=!(decide (0<=v)&&decide (v<=(rows S m:Int)-1))) rfl ?_).trans ?_
 ·show dG (trF (clF wi _)) [some (af ps),some (iN m),some (.int v),some (itD U),some (tbs U (m+1)),none,none,none,none,none,none,none]=_;simp only[sB,e3,hwi v 0]
 ·by_cases c:0<=v/\v<(rows S m:Int)
  ·rw[if_pos c,decide_eq_true c.1,decide_eq_true (by omega)];rfl
  ·rw[if_neg c];have:(decide (0<=v)&&decide (v<=(rows S m:Int)-1))=false:=Bool.eq_false_iff.mpr λh=>by
    rw[and_eq_true,decide_eq_true_eq,decide_eq_true_eq]at h;omega
   rw[this];rfl
def zNo (zc:Zf) (co:Fn) (z:Zf):Prop:=∀m d:D,(∀x,zc [m,d]=some x->z [m,d]=some x)/\(zc [m,d]=none->∀b,co [m,d]=dp (.bl b)->z [m,d]=if b=true then none else some ("NoRow":Str))
theorem J2:zNo zc co (iW 2 10 (pQ zc co)):=λm d=>by
 have h1:clZ (x2 (va 0) (va 1)) zc (aq 10 [m,d])=zc [m,d]:=rfl;refine⟨λx e=>zt (h1.trans e),λe b hc=>?_⟩;refine(Av (t:=!b) (h1.trans e) ?_).trans (by cases b<;>rfl);show dG (trF (clF co (x2 (va 0) (va 1)))) [some m,some d,none,none,none,none,none,none,none,none]=_;simp only[sB,hc]
theorem mC (h:c (vw Y)=some true):thZ (ifZ c z noZ) (ifS c (rtF g) nxE) t Y=z Y:=by
 unfold thZ orO;rw[CF h,if_pos rfl];cases z Y with
 |some x=>rfl
 |none=>
  show(ifS c (rtF g) nxE Y).bind _=none;rw[gQ h];unfold rtF ae fQ;cases g Y<;>rfl
theorem bB (h:c (vw Y)=some false):thZ (ifZ c z noZ) (ifS c F nxE) t Y=t Y:=uU ((CF h).trans rfl) ((eh h).trans rfl)
theorem cw (d0 l x:D) (w k:Int):ar (aa (aF false) (va 1) (cI k)) (vw [sn d0,sn (.int w),sn l,sn x])=some (decide (w=k)):=by
 simp only[sB,jQ];rfl
structure zCal (zf zs zc zm zr zn z:Zf):Prop where
 w0:∀d l x,z [d,.int 0,l,x]=zf [d]
 w1:∀d l x,z [d,.int 1,l,x]=zs [d,l]
 w2:∀d l x,z [d,.int 2,l,x]=zc [d,l]
 w3:∀d l x n,bP [l]=some n->z [d,.int 3,l,x]=zm [d,n]
 w4:∀d l x n,bP [l]=some n->z [d,.int 4,l,x]=zr [d,n,x]
 w5:∀d l x,z [d,.int 5,l,x]=zn [d,l]
theorem GQ {zf fa zs st zc co zm mr zr ra zn}:zCal zf zs zc zm zr zn (iW 4 4 (cA zf fa zs st zc co zm mr zr ra zn)):=by
 have st4:∀d (w:Int) l x,iW 4 4 (cA zf fa zs st zc co zm mr zr ra zn) [d,.int w,l,x]=cA zf fa zs st zc co zm mr zr ra zn [sn d,sn (.int w),sn l,sn x]:=λ_ _ _ _=>rfl;refine⟨λd l x=>?_,λd l x=>?_,λd l x=>?_,λd l x n h=>?_,λd l x n h=>?_,λd l x=>?_⟩<;>rw[st4]<;>unfold cA
 ·rw[mC (cw d l x 0 0)];rfl
 ·rw[bB (cw d l x 1 0),mC (cw d l x 1 1)];rfl
 ·rw[bB (cw d l x 2 0),bB (cw d l x 2 1),mC (cw d l x 2 2)];rfl
 ·rw[bB (cw d l x 3 0),bB (cw d l x 3 1),bB (cw d l x 3 2),mC (cw d l x 3 3)];show(x2 (va 0) (lnF (va 2)) [some d,some (.int 3),some l,some x]).bind zm=_;simp only[sB,h]
 ·rw[bB (cw d l x 4 0),bB (cw d l x 4 1),bB (cw d l x 4 2),bB (cw d l x 4 3),mC (cw d l x 4 4)];show(x3 (va 0) (lnF (va 2)) (va 3) [some d,some (.int 4),some l,some x]).bind zr=_;simp only[sB,h]
 ·rw[bB (cw d l x 5 0),bB (cw d l x 5 1),bB (cw d l x 5 2),bB (cw d l x 5 3),bB (cw d l x 5 4)];rfl
theorem dB {xs:Vv->Option (List D)} (h:xs (vw Y)=some ds) (e:f ds=dp d):evC f xs Y=some ((.deep,d),Y):=by
 cases q:lfD d with
 |true=>exact ev_cf h e q
 |false=>exact ev_cl h e q
theorem ox (h:c (vw Y)=some true) (k:F Y=some (.rt s)):ae (ifS c F G') G Y=some (.rt s):=aN ((gQ h).trans k)
structure vCal (fa st co mr ra no f:Fn):Prop where
 w0:∀d l x s,fa [d]=dp s->f [d,.int 0,l,x]=dp s
 w1:∀d l x s,st [d,l]=dp s->f [d,.int 1,l,x]=dp s
 w2:∀d l x s,co [d,l]=dp s->f [d,.int 2,l,x]=dp s
 w3:∀d l x n s,bP [l]=some n->mr [d,n]=dp s->f [d,.int 3,l,x]=dp s
 w4:∀d l x n s,bP [l]=some n->ra [d,n,x]=dp s->f [d,.int 4,l,x]=dp s
 w5:∀d l x s,no [d,l]=dp s->f [d,.int 5,l,x]=dp s
theorem GR {fa st co mr ra no}:vCal fa st co mr ra no (bj 4 4 (gU no ra mr co st fa)):=by
 have st4:∀d (w:Int) l x,aq 4 [d,.int w,l,x]=[sn d,sn (.int w),sn l,sn x]:=λ_ _ _ _=>rfl;refine⟨λd l x s h=>ao rfl ?_,λd l x s h=>ao rfl ?_,λd l x s h=>ao rfl ?_,λd l x n s hl h=>ao rfl ?_,λd l x n s hl h=>ao rfl ?_,λd l x s h=>ao rfl ?_⟩<;>rw[st4]<;>unfold gU
 ·exact ox (cw d l x 0 0) (bt (dB (ds:=[d]) rfl h))
 ·exact bG (cw d l x 1 0) (ox (cw d l x 1 1) (bt (dB (ds:=[d,l]) rfl h)))
 ·exact bG (cw d l x 2 0) (bG (cw d l x 2 1) (ox (cw d l x 2 2) (bt (dB (ds:=[d,l]) rfl h))))
 ·refine bG (cw d l x 3 0) (bG (cw d l x 3 1) (bG (cw d l x 3 2) (ox (cw d l x 3 3) (bt (dB (ds:=[d,n]) ?_ h)))));show x2 (va 0) (lnF (va 2)) [some d,some (.int 3),some l,some x]=_;simp only[sB,hl]
 ·refine bG (cw d l x 4 0) (bG (cw d l x 4 1) (bG (cw d l x 4 2) (bG (cw d l x 4 3) (ox (cw d l x 4 4) (bt (dB (ds:=[d,n,x]) ?_ h))))));show x3 (va 0) (lnF (va 2)) (va 3) [some d,some (.int 4),some l,some x]=_;simp only[sB,hl]
 ·exact bG (cw d l x 5 0) (bG (cw d l x 5 1) (bG (cw d l x 5 2) (bG (cw d l x 5 3) (bG (cw d l x 5 4) (bt (dB (ds:=[d,l]) rfl h))))))
def xn4:List Str:=["BadMill","BadPlan","BadRow","NoRow","Shut"]
theorem evFr_eq (h:F (vw Y)=some d):dS F Y=some ((.deep,d),Y):=by unfold dS;rw[h];rfl
theorem isN_ok (h:o=some b) (e:fP Y i=some (.adr a)):lfE (isN o i a) Y=some (.bl b):=by
 subst h;show lfO (isF i a b Y)=_;unfold isF;rw[e];simp only[if_true];rfl
theorem pR (h1:o1=some false) (h2:o2=some true) (h3:o3=some true):hdX 6 (λa=>(ae (ak 4 (dS (lfE (cS w)))) (ae (ak 7 (dS (lfE (isN o1 6 a)))) (ae (ak 5 (dS (fLs (x3 (lfE (isN o2 6 a)) (lfE (isN o3 6 a)) (lfE (va 7)))))) nxE)))) [sn d0,sn d1,sn d2,sn d3,dp (.str "told"),dp (.lst []),none,none]=some [sn d0,sn d1,sn d2,sn d3,dp (.str w),dp (.lst [.bl true,.bl true,.bl false]),none,dp (.bl false)]:=F7 λa=>by
 refine⟨[sn d0,sn d1,sn d2,sn d3,dp (.str w),dp (.lst [.bl true,.bl true,.bl false]),sn (.adr a),dp (.bl false)],?_,rfl⟩;refine q_set (evFr_eq (d:=.str w) rfl) (q_set (evFr_eq (isN_ok h1 rfl)) (q_set (evFr_eq (d:=.lst [.bl true,.bl true,.bl false]) ?_) rfl));rw[DE,L6,consX_a,isN_ok h2 rfl,Option.bind_some,L5,consX_a,isN_ok h3 rfl];rfl
structure sAsk (ca:Fn) (z:Zf) (f:Fn):Prop where
 shut:∀a b c d,z [a,b,c,d]=some ("Shut":Str)->f [a,b,c,d]=dp (.str "shut")
 bad:∀a b c d,z [a,b,c,d]=some ("BadRow":Str)->f [a,b,c,d]=dp (.str "bad row")
 no:∀a b c d,z [a,b,c,d]=some ("NoRow":Str)->f [a,b,c,d]=dp (.str "no row")
 told:∀a b c d s,z [a,b,c,d]=none->ca [a,b,c,d]=dp s->f [a,b,c,d]=dp (.str "told")
theorem J3 {ca z}:sAsk ca z (bj 4 8 (cC ca z (tbX xn4))) where
 shut:=λa b c d h=>ao rfl (by
  unfold cC;refine q_set (evX_lf (d:=.str "told") rfl rfl) (q_set (evX_lfs (d:=.lst []) (ds:=[]) (by simp) rfl (by simp) rfl) (zG (tq (x:=("Shut":Str)) (Y':=[sn a,sn b,sn c,sn d,dp (.str "shut"),dp (.lst [.bl true,.bl true,.bl false]),none,dp (.bl false)]) h ?_) (bG (by kernel_rfl) rfl)));rw[tu (by kernel_rfl)];exact pR (by kernel_rfl) (by kernel_rfl) (by kernel_rfl))
 bad:=λa b c d h=>ao rfl (by
  unfold cC;refine q_set (evX_lf (d:=.str "told") rfl rfl) (q_set (evX_lfs (d:=.lst []) (ds:=[]) (by simp) rfl (by simp) rfl) (zG (tq (x:=("BadRow":Str)) (Y':=[sn a,sn b,sn c,sn d,dp (.str "bad row"),dp (.lst [.bl true,.bl true,.bl false]),none,dp (.bl false)]) h ?_) (bG (by kernel_rfl) rfl)));rw[zv (by kernel_rfl),tu (by kernel_rfl)];exact pR (by kernel_rfl) (by kernel_rfl) (by kernel_rfl))
 no:=λa b c d h=>ao rfl (by
  unfold cC;refine q_set (evX_lf (d:=.str "told") rfl rfl) (q_set (evX_lfs (d:=.lst []) (ds:=[]) (by simp) rfl (by simp) rfl) (zG (tq (x:=("NoRow":Str)) (Y':=[sn a,sn b,sn c,sn d,dp (.str "no row"),dp (.lst [.bl true,.bl true,.bl false]),none,dp (.bl false)]) h ?_) (bG (by kernel_rfl) rfl)));rw[zv (by kernel_rfl),zv (by kernel_rfl),tu (by kernel_rfl)];exact pR (by kernel_rfl) (by kernel_rfl) (by kernel_rfl))
 told:=λa b c d s h e=>ao rfl (by
  unfold cC;refine q_set (evX_lf (d:=.str "told") rfl rfl) (q_set (evX_lfs (d:=.lst []) (ds:=[]) (by simp) rfl (by simp) rfl) (zG (Gf (Y':=[sn a,sn b,sn c,sn d,dp (.str "told"),dp (.lst []),none,none]) h (zE (d:=s) ?_ rfl)) (bG (by kernel_rfl) rfl)));show clF ca _ [some a,some b,some c,some d,some (.str "told"),some (.lst []),none,none]=_;simp only[sB,e])
end K20
namespace K20
open PySem PySem.Spec PyProof.Rows L2
noncomputable def fD (aH aS:Fn):Ev->Option Out:=(ae (ak 1 evE) (ae (frF (jR (x1 (aa aT (clF aH (x2 (va 0) (cI 0))) (cI 4)))) (eNm 2) (ae (ak 3 (evC aS (x2 (clF aH (x2 (va 0) (aa aE (cI 1) (va 2)))) (aa aE (cI 3) (va 2))))) (ae (ak 4 (evX (lsF (au [5] (jR (x1 (aa aE (cI 1) (aa aT (va 3) (cI 3))))) (gNm 5) tQ (aa ixD (lsF (dpF (x2 (cS "queue") (cS "pile")))) (aa aT (aa cO (va 3) (aa aE (cI 2) (va 5))) (cI 2))))) (au [5] (jR (x1 (aa aE (cI 1) (aa aT (va 3) (cI 3))))) (gNm 5) tQ (aa ixD (lsF (dpF (x2 (cS "queue") (cS "pile")))) (aa aT (aa cO (va 3) (aa aE (cI 2) (va 5))) (cI 2)))) (fCo [5] (jR (x1 (aa aE (cI 1) (aa aT (va 3) (cI 3))))) (gNm 5) tQ (frX (aa ixD (lsF (dpF (x2 (cS "queue") (cS "pile")))) (aa aT (aa cO (va 3) (aa aE (cI 2) (va 5))) (cI 2))) noV noV)))) (ae (oX 1 (evX (biF b6 (x1 (lsF (au [6] (jX noV (va 4)) (gNm 6) tQ (tpF (x2 (va 6) (aa aE (cI 1) (aa aT (aa cO (va 3) (cI 16)) (cI 9))))))))) noV (fNo (x1 (lsF (au [6] (jX noV (va 4)) (gNm 6) tQ (tpF (x2 (va 6) (aa aE (cI 1) (aa aT (aa cO (va 3) (cI 16)) (cI 9))))))))))) nxE)))) (rtF (evX (biF b6 (x1 (va 1))) noV (fNo (x1 (va 1)))))))
def gp (aH aS:Fn):Ev->Option Out:=(ae (ak 2 evE) (ae (frF (jR (x1 (va 1))) (eNm 3) (ae (pi 2 (aa aT (clF aS (x2 (clF aH (x2 (va 0) (aa aE (cI 6) (va 3)))) (aa aE (cI 20) (va 3)))) (aa aE (va 3) (cI 1))) (va 3)) nxE)) (ae (rtN 2) nxE)))
noncomputable def fE:Ev->Option Out:=(ae (ak 2 (evX (liF (x1 (va 0))) (l1F (x1 (va 0))) (fNo (x1 (va 0))))) (ae (ak 3 (evV (aa aT (aa cO (va 1) (cI 4)) (aa aE (lnF (va 0)) (cI 1))))) (ae (ifS (lq (ar (aa (aF false) (aa aT (va 1) (cI 4)) (cI 0))) (ar (aa (aF true) (va 0) (lsF (dpF aC))))) (ae (pi 2 (va 3) (aa ixD (va 0) (aa aT (aa cO (va 1) (cI 64)) (lnF (va 0))))) nxE) (ae (ifS (ar (aa (aF false) (aa aT (va 1) (cI 4)) (cI 1))) (ae (pi 2 (va 3) (aa cg (ngF (cI 1)) (aa aT (aa cO (va 1) (cI 64)) (cI 3)))) nxE) (ae (pi 2 (va 3) (aa aE (aa aE (lnF (va 0)) (cI 1)) (aa bN (aa aT (aa cO (va 1) (cI 64)) (cI 3)) (aa cO (va 1) (cI 256))))) nxE)) nxE)) (ae (rtN 2) nxE))))
theorem ve (h0:fR Y i=some (.deep,ds)) (hk:fk (shv Y)=some (iN k)) (hkl:k<=ds.length) (hd:R (shv Y)=some d) (lf:lfD d=true) (hl:ds.length+1<big):
  pi i fk R Y=some (.nx (Y.set i (dp (.lst (insL k ds d))))):=by
 unfold pi
 simp only[h0,Option.bind_some,hk,Ag hkl,hd,lfO,lf]
 show(if ds.length+1<big then _ else _)=_
 rw[if_pos hl]
 rfl
theorem vf (f:α->β) (k:Nat) (l:List α) (x:α):insL k (l.map f) (f x)=(insL k l x).map f:=by simp[insL]
theorem i8 (k:Nat) (l:List α) (x:α):(insL k l x).Perm (l++[x]):=by
 unfold insL;refine List.perm_middle.trans ?_;rw[List.take_append_drop];exact(List.perm_append_singleton x l).symm
def Aw (f:Fn):Prop:=∀ (ns:List Int) (n:Nat),ns.length<=63->n<=24->∃r:List Nat,r.Perm (List.range n)/\f [scD ns,iN n]=dp (rowD r)
theorem GS {ce st} (hce:rD ce) (hst:rE st):Aw (bj 2 4 (gp ce st)):=λns n hn h24=>by
 have hs:aq 4 [scD ns,iN n]=[sn (scD ns),sn (iN n),none,none]:=rfl;have fin:∃r:List Nat,gp ce st [sn (scD ns),sn (iN n),none,none]=some (.rt (.deep,rowD r))/\r.Perm (List.range n):=by
  unfold gp;refine ax (evX_lfs (d:=.lst []) (ds:=[]) (by simp) rfl (by simp) rfl) (re (n:=n) (v:=λi=>(i:Int)) (λi Y=>∃ (r:List Nat) (o3:Option Sl),r.Perm (List.range i)/\Y=[sn (scD ns),sn (iN n),dp (rowD r),o3]) ?_ ⟨[],none,.refl _,rfl⟩ ?_ ?_)
  ·refine f8 ?_;show(x1 (va 1) [some (scD ns),some (iN n),none,none]).bind j8=_;simp only[sB];exact bR (by omega)
  ·rintro i Y hi ⟨r,o3,pr,rfl⟩;have hl:r.length=i:=by rw[pr.length_eq,length_range]
   obtain⟨c,e1⟩:=hce ns (6+i) hn (by omega);have e1:ce [scD ns,.int (6+(i:Int))]=dp (.int c):=e1;obtain⟨v,_,e2⟩:=hst c (20+(i:Int)) (by omega) (by omega);have m:=md v (show(0:Int)<(i:Int)+1 by omega);obtain⟨k,hk⟩:∃k:Nat,(k:Int)=v%((i:Int)+1):=⟨(v%((i:Int)+1)).toNat,by omega⟩;refine mj (ve (ds:=r.map λ(k:Nat)=>D.int (k:Int)) (k:=k) (d:=iN i) rfl ?_ ?_ rfl rfl ?_) ⟨insL k r i,sn (iN i),?_,?_⟩
   ·show aa aT _ _ [some (scD ns),some (iN n),none,some (iN i)]=_;simp only[sB,e1,e2,aP (show(0:Int)<(i:Int)+1 by omega),<-hk]
   ·rw[length_map];omega
   ·rw[length_map];exact lt_big (by omega)
   ·rw[List.range_succ];exact(i8 k r i).trans (pr.append_right _)
   ·unfold rowD;rw[<-vf (λ(k:Nat)=>D.int (k:Int)) k r i];rfl
  ·rintro Y ⟨r,o3,pr,rfl⟩;exact⟨r,aN rfl,pr⟩
 obtain⟨r,e,p⟩:=fin;exact⟨r,p,ao rfl (by rw[hs];exact e)⟩
def sWr (f:Fn):Prop:=∀ (r:List Nat) (n:Nat) (c:Int),r.Perm (List.range n)->n<=24->0<=c->∃zs:List Int,zs.length=n+1/\Bad zs/\f [rowD r,.int c]=dp (itD zs)
theorem Ms:sWr (bj 2 4 fE):=λr n c pm hn h0=>by
 have hl:r.length=n:=by rw[pm.length_eq,length_range]
 have nl:bP [rowD r]=some (iN n):=by rw[c9,hl]
 have m1:=md (c/4) (show(0:Int)<(n:Int)+1 by omega);obtain⟨k,hk⟩:∃k:Nat,(k:Int)=c/4%((n:Int)+1):=⟨(c/4%((n:Int)+1)).toNat,by omega⟩;have hs:aq 4 [rowD r,.int c]=[sn (rowD r),sn (.int c),none,none]:=rfl;have ln:(r.map λ(k:Nat)=>(k:Int)).length=n:=by rw[length_map,hl]
 have len:∀z,(insL k (r.map λ(k:Nat)=>(k:Int)) z).length=n+1:=λz=>by rw[(i8 k _ z).length_eq,length_append,ln];rfl
 have mem:∀z,z∈insL k (r.map λ(k:Nat)=>(k:Int)) z:=λz=>(i8 k _ z).mem_iff.mpr (mem_append_right _ mem_cons_self);have fin:∀z:Int,Bad (insL k (r.map λ(k:Nat)=>(k:Int)) z)->∀ {F:Ev->Option Out} {R},F=ae (pi 2 (va 3) R) nxE->R [some (rowD r),some (.int c),none,some (iN k)]=some (.int z)->∃Y',F [sn (rowD r),sn (.int c),dp (rowD r),dp (iN k)]=some (.nx Y')/\∃zs:List Int,ae (rtN 2) nxE Y'=some (.rt (.deep,itD zs))/\zs.length=n+1/\Bad zs:=λz hb F R hF hR=>by
  subst hF;refine mj (ve (ds:=r.map λ(k:Nat)=>D.int (k:Int)) (k:=k) (d:=.int z) rfl rfl (by rw[length_map];omega) hR rfl (by rw[length_map];exact lt_big (by omega))) ⟨insL k (r.map λ(k:Nat)=>(k:Int)) z,?_,len z,hb⟩;rw[show(r.map λ(k:Nat)=>D.int (k:Int))=(r.map λ(k:Nat)=>(k:Int)).map D.int by rw[List.map_map];rfl,vf D.int];rfl
 have key:∃zs:List Int,fE [sn (rowD r),sn (.int c),none,none]=some (.rt (.deep,itD zs))/\zs.length=n+1/\Bad zs:=by
  unfold fE;refine ax (s:=(.deep,rowD r)) (evX_lfs (d:=rowD r) (ds:=r.map λ(k:Nat)=>D.int (k:Int)) rfl rfl rfl (bM λd hd=>by obtain⟨p,_,rfl⟩:=List.mem_map.mp hd;rfl)) (ax (s:=(.deep,iN k)) (evX_lf ?_ rfl) ?_)
  ·simp only[sB,bA (show(0:Int)<4 by decide) (by decide),nl,aP (show(0:Int)<(n:Int)+1 by omega),<-hk]
  ·show∃zs:List Int,ae (ifS _ _ _) _ [sn (rowD r),sn (.int c),dp (rowD r),dp (iN k)]=_/\_;have ne:aF true (rowD r) (.lst [])=some (.bl (decide (0<n))):=by
    rw[<-hl];cases r with
    |nil=>rfl
    |cons a r=>
     unfold aF gL;rw[show(aU (rowD (a::r))&&aU (.lst [])&&mU (toV (rowD (a::r))) (toV (.lst [])))=false from rfl,if_neg (by decide),if_pos]
     ·rfl
     ·show(true&&okL ((a::r).map λ(k:Nat)=>D.int (k:Int))&&true&&decide (cJ ((a::r).map λ(k:Nat)=>D.int (k:Int))+1<=50))=true;rw[(jr (a::r)).1,(jr (a::r)).2];rfl
   refine CK (b:=decide (c%4=0)&&decide (0<n)) ?_ ?_
   ·show lq _ _ [some (rowD r),some (.int c),some (rowD r),some (iN k)]=_;simp only[sB,aP (show(0:Int)<4 by decide),jQ,FK,ne];cases decide (c%4=0)<;>rfl
   ·by_cases q1:c%4=0/\0<n
    ·rw[decide_eq_true q1.1,decide_eq_true q1.2,Bool.and_self,if_pos rfl];have m2:=md (c/64) (show(0:Int)<(n:Int)by omega);obtain⟨j,hj⟩:∃j:Nat,(j:Int)=c/64%(n:Int):=⟨(c/64%(n:Int)).toNat,by omega⟩;have ij:ixD (rowD r) (iN j)=some (iN (r.getD j 0)):=u7 (mk:=λ(k:Nat)=>D.int (k:Int)) (show j<r.length by omega) rfl;refine fin ((r.getD j 0:Nat):Int) (.inr (.inr λnd=>?_)) rfl ?_
     ·have nd:=(i8 k _ _).nodup_iff.mp nd;refine(List.nodup_append.mp nd).2.2 _ (List.mem_map.mpr ⟨r.getD j 0,?_,rfl⟩) _ mem_cons_self rfl;rw[List.getD_eq_getElem?_getD,getElem?_eq_getElem (show j<r.length by omega)];exact List.getElem_mem _
     ·simp only[sB,bA (show(0:Int)<64 by decide) (by decide),nl,aP (show(0:Int)<(n:Int)by omega),<-hj,ij]
    ·rw[show(decide (c%4=0)&&decide (0<n))=false from Bool.eq_false_iff.mpr λh=>by rw[and_eq_true,decide_eq_true_eq,decide_eq_true_eq]at h;exact q1 h,if_neg (by decide)];have m3:=md (c/64) (show(0:Int)<3 by decide);have t1:ar (aa (aF false) (aa aT (va 1) (cI 4)) (cI 1)) (vw [sn (rowD r),sn (.int c),dp (rowD r),dp (iN k)])=some (decide (c%4=1)):=by
      simp only[sB,aP (show(0:Int)<4 by decide),jQ];rfl
     have go:∀ {F:Ev->Option Out} (Y:Ev),(∃Y',F Y=some (.nx Y')/\∃zs:List Int,ae (rtN 2) nxE Y'=some (.rt (.deep,itD zs))/\zs.length=n+1/\Bad zs)->∃Y',ae F nxE Y=some (.nx Y')/\∃zs:List Int,ae (rtN 2) nxE Y'=some (.rt (.deep,itD zs))/\zs.length=n+1/\Bad zs:=λY ⟨Y',a,b⟩=>⟨Y',(az a).trans rfl,b⟩;refine go _ ?_;by_cases q2:c%4=1
     ·rw[decide_eq_true q2]at t1;rw[gQ t1];refine fin (-1-c/64%3) (.inr (.inl ⟨_,mem _,λh=>by omega⟩)) rfl ?_;simp only[sB,uM,pw,bA (show(0:Int)<64 by decide) (by decide),aP (show(0:Int)<3 by decide)]
     ·rw[decide_eq_false q2]at t1;rw[eh t1];have p0:0<=c/64%3*(c/256):=Int.mul_nonneg m3.1 (Int.ediv_nonneg h0 (by decide));refine fin ((n:Int)+1+c/64%3*(c/256)) (.inr (.inl ⟨_,mem _,λh=>by rw[len]at h;omega⟩)) rfl ?_;simp only[sB,bA (show(0:Int)<64 by decide) (by decide),bA (show(0:Int)<256 by decide) (by decide),aP (show(0:Int)<3 by decide),nl,pz (show -18446744073709551616<c/64%3 by omega) (show c/64%3<18446744073709551616 by omega)]
 obtain⟨zs,e,h1,h2⟩:=key;exact⟨zs,h1,h2,ao rfl (by rw[hs];exact e)⟩
def tM (f:Fn):Prop:=∀ns:List Int,ns.length<=63->∃ps:List (List Pk),Valid ps/\Wide ps/\prod ps<64/\f [scD ns]=dp (aA ps)
theorem C5 {ce st} (hce:rD ce) (hst:rE st):tM (bj 1 7 (fD ce st)):=λns hn=>by
 obtain⟨c0,e0⟩:=hce ns 0 hn (by decide);have e0:ce [scD ns,.int 0]=dp (.int c0):=e0;have m0:=md c0 (show(0:Int)<4 by decide);obtain⟨n,hn4⟩:∃n:Nat,(n:Int)=c0%4:=⟨(c0%4).toNat,by omega⟩;have hs:aq 7 [scD ns]=[sn (scD ns),none,none,none,none,none,none]:=rfl;have key:∃ps:List (List Pk),fD ce st [sn (scD ns),none,none,none,none,none,none]=some (.rt (.deep,aA ps))/\Valid ps/\Wide ps/\prod ps<64:=by
  unfold fD;refine ax (evX_lfs (d:=.lst []) (ds:=[]) (by simp) rfl (by simp) rfl) (re (n:=n) (v:=λi=>(i:Int)) (λi Y=>∃ (ps:List (List Pk)) (o2 o3 o4:Option Sl),ps.length=i/\(∀p∈ps,okP p=true/\∀k∈p,(1:Int)<=k.2)/\prod ps<=3^i/\Y=[sn (scD ns),dp (.lst (ps.map tpD)),o2,o3,o4,none,none]) ?_ ⟨[],none,none,none,rfl,(λ_ h=>nomatch h),le_refl _,rfl⟩ ?_ ?_)
  ·refine f8 ?_;show(x1 (aa aT (clF ce (x2 (va 0) (cI 0))) (cI 4)) [some (scD ns),none,none,none,none,none,none]).bind j8=_;simp only[sB,e0,aP (show(0:Int)<4 by decide),<-hn4];exact bR (by omega)
  ·rintro i Y hi ⟨ps,o2,o3,o4,hl,hok,hp,rfl⟩;obtain⟨c,e1⟩:=hce ns (1+i) hn (by omega);have e1:ce [scD ns,.int (1+(i:Int))]=dp (.int c):=e1;obtain⟨v,_,e2⟩:=hst c (3+(i:Int)) (by omega) (by omega);have m1:=md v (show(0:Int)<3 by decide);obtain⟨m,hm⟩:∃m:Nat,(m:Int)=1+v%3:=⟨(1+v%3).toNat,by omega⟩;have m2:=md (v/16) (show(0:Int)<9 by decide);have sl:∀o4,vw [sn (scD ns),dp (.lst (ps.map tpD)),sn (iN i),dp (.int v),o4,none,none]=[some (scD ns),some (.lst (ps.map tpD)),some (iN i),some (.int v),o4.map (·.2),none,none]:=λ_=>rfl;have hc:∀o4:Option D,au [5] (jR (x1 (aa aE (cI 1) (aa aT (va 3) (cI 3))))) (gNm 5) tQ (aa ixD (lsF (dpF (x2 (cS "queue") (cS "pile")))) (aa aT (aa cO (va 3) (aa aE (cI 2) (va 5))) (cI 2))) [some (scD ns),some (.lst (ps.map tpD)),some (iN i),some (.int v),o4,none,none]=some ((List.range m).map λ(k:Nat)=>D.str (kd (decide (v/(2+(k:Int))%2=0)))):=λo4=>by
    refine aB (xs:=List.range m) (mk:=λ(k:Nat)=>D.int (k:Int)) (out:=λ(k:Nat)=>D.str (kd (decide (v/(2+(k:Int))%2=0)))) (f8 ?_) (λk hk=>?_) (by rw[length_range];exact lt_big (by omega))
    ·simp only[sB,aP (show(0:Int)<3 by decide),<-hm];exact bR (by omega)
    ·have hk:=List.mem_range.mp hk;have m3:=md (v/(2+(k:Int))) (show(0:Int)<2 by decide);simp only[sB,bA (show(0:Int)<2+(k:Int)by omega) (show 2+(k:Int)<1073741824 by omega),aP (show(0:Int)<2 by decide)];by_cases q:v/(2+(k:Int))%2=0
     ·rw[q,decide_eq_true rfl];rfl
     ·rw[show v/(2+(k:Int))%2=1 by omega,decide_eq_false (by decide)];rfl
   refine ax (s:=(.deep,.int v)) (Y':=[sn (scD ns),dp (.lst (ps.map tpD)),sn (iN i),o3,o4,none,none]) (ev_cf (ds:=[.int c,.int (3+(i:Int))]) ?_ e2 rfl) (ax (s:=(.deep,.lst ((List.range m).map λ(k:Nat)=>D.str (kd (decide (v/(2+(k:Int))%2=0)))))) (Y':=[sn (scD ns),dp (.lst (ps.map tpD)),sn (iN i),dp (.int v),o4,none,none]) (evX_lfs (d:=.lst ((List.range m).map λ(k:Nat)=>D.str (kd (decide (v/(2+(k:Int))%2=0))))) ?_ rfl ?_ (bM λd hd=>by obtain⟨p,_,rfl⟩:=List.mem_map.mp hd;rfl)) ?_)
   ·simp only[sB,e1]
   ·show lsF _ (vw [sn (scD ns),dp (.lst (ps.map tpD)),sn (iN i),dp (.int v),o4,none,none])=_;rw[lsF_a,sl,hc];rfl
   ·show au _ _ _ _ _ (vw [sn (scD ns),dp (.lst (ps.map tpD)),sn (iN i),dp (.int v),o4,none,none])=_;rw[sl,hc]
   ·have pl:((List.range m).map λ(k:Nat)=>((decide (v/(2+(k:Int))%2=0),1+v/16%9):Pk)).length=m:=by rw[length_map,length_range]
    refine mj (gD (ds:=ps.map tpD) (ds0:=ps.map tpD) (c0:=.deep) (d:=tpD ((List.range m).map λ(k:Nat)=>((decide (v/(2+(k:Int))%2=0),1+v/16%9):Pk))) rfl (evX_lf ?_ (yS _)) rfl (by rw[length_map];exact lt_big (by omega))) ⟨ps++[(List.range m).map λ(k:Nat)=>((decide (v/(2+(k:Int))%2=0),1+v/16%9):Pk)],_,_,_,by rw[length_append,hl];rfl,λp hp=>?_,?_,by rw[List.map_append];rfl⟩
    ·show biF b6 _ [some (scD ns),some (.lst (ps.map tpD)),some (iN i),some (.int v),some (.lst ((List.range m).map λ(k:Nat)=>D.str (kd (decide (v/(2+(k:Int))%2=0))))),none,none]=_;have hd:au [6] (jX noV (va 4)) (gNm 6) tQ (tpF (x2 (va 6) (aa aE (cI 1) (aa aT (aa cO (va 3) (cI 16)) (cI 9))))) [some (scD ns),some (.lst (ps.map tpD)),some (iN i),some (.int v),some (.lst ((List.range m).map λ(k:Nat)=>D.str (kd (decide (v/(2+(k:Int))%2=0))))),none,none]=some ((List.range m).map λ(k:Nat)=>pkD (decide (v/(2+(k:Int))%2=0),1+v/16%9)):=by
      refine aB (xs:=List.range m) (mk:=λ(k:Nat)=>D.str (kd (decide (v/(2+(k:Int))%2=0)))) (by simp only[sB,bW,jq]) (λk hk=>?_) (by rw[length_range];exact lt_big (by omega));simp only[sB,qR,bA (show(0:Int)<16 by decide) (by decide),aP (show(0:Int)<9 by decide)];rfl
     rw[biF_a,zK,consX_a,lsF_a,hd];simp only[sB,yK,jq];unfold tpD;rw[List.map_map];rfl
    ·rcases mem_append.mp hp with hp|hp
     ·exact hok p hp
     ·cases mem_singleton.mp hp;refine⟨yZ (by omega) (by omega) λk hk=>?_,λk hk=>?_⟩<;>obtain⟨j,_,rfl⟩:=List.mem_map.mp hk
      ·simp[okK];omega
      ·show 1<=1+v/16%9;omega
    ·rw[cV,pl,Nat.pow_succ];exact Nat.mul_le_mul hp (by omega)
  ·rintro Y ⟨ps,o2,o3,o4,hl,hok,hp,rfl⟩;refine⟨ps,bt (evX_lf (d:=aA ps) rfl (pB ps)),⟨by omega,λp hp=>(hok p hp).1,?_⟩,λp hp=>(hok p hp).2,?_⟩
   ·have:3^n<=3^3:=Nat.pow_le_pow_right (by decide) (by omega);omega
   ·have:3^n<=3^3:=Nat.pow_le_pow_right (by decide) (by omega);omega
 obtain⟨ps,e,h1,h2,h3⟩:=key;exact⟨ps,h1,h2,h3,ao rfl (by rw[hs];exact e)⟩
end K20
namespace K20
open PySem PySem.Spec PyProof.Rows L2
noncomputable def Ax (aO bb dI fH:Fn) (mF:List D->Option (List (Str×D))) (dj dL aH en aS dJ:Fn):Ev->Option Out:=(ae (ak 1 (evC dJ (x1 (va 0)))) (ae (ak 2 (evC aS (x2 (clF aH (x2 (va 0) (cI 4))) (cI 30)))) (ae (ak 3 (evC en (x2 (va 0) (aa aT (clF aH (x2 (va 0) (cI 5))) (cI 12))))) (ae (ak 4 (evC dL (x2 (va 3) (aa cO (va 2) (cI 8))))) (ae (ifS (lq (ar (aa gtD (lnF (va 1)) (cI 0))) (ar (aa (aF false) (aa aT (va 2) (cI 3)) (cI 1)))) (ae (ak 5 (evX (mkF "Mill" mF (x1 (clF dj (x2 (va 1) (aa cO (va 2) (cI 3)))))) noV (fNo (x1 (clF dj (x2 (va 1) (aa cO (va 2) (cI 3)))))))) (ae (frF (jR (x1 (cI 6))) (eNm 12) (ae (ifS (ar (aa (aF true) (clF aO (x4 (va 5) (va 12) (aa ixD (lsF (dpF (x2 (va 3) (va 4)))) (aa aT (aa cO (va 2) (cI 64)) (cI 2))) (aa cg (aa aT (va 2) (cI 9)) (cI 1)))) (cS "shut"))) (rtF (evV (cB false))) nxE) nxE)) (rtF (evV (cB true))))) nxE) (ae (ak 5 (evX (mkF "Mill" mF (x1 (va 1))) noV (fNo (x1 (va 1))))) (ae (ak 6 (evC fH (x2 (clF dI (x1 (va 1))) (va 3)))) (ae (ak 7 (evC bb (x2 (va 5) (lnF (va 3))))) (ae (ak 8 (evV (aa ixD (lsF (dpF (x4 (ngF (cI 1)) (va 7) (aa cg (ngF (cI 1)) (va 2)) (aa aE (va 7) (va 2))))) (aa aT (aa cO (va 2) (cI 512)) (cI 4))))) (ae (ak 9 (evX (liG (x1 (biF noD (x1 (aa aE (cI 25) (aa aT (va 2) (cI 9)))))) (orO (lrF (x1 (aa aE (cI 25) (aa aT (va 2) (cI 9))))) (l1F (x1 (biF noD (x1 (aa aE (cI 25) (aa aT (va 2) (cI 9))))))))) (orO (lrF (x1 (aa aE (cI 25) (aa aT (va 2) (cI 9))))) (l1F (x1 (biF noD (x1 (aa aE (cI 25) (aa aT (va 2) (cI 9)))))))) (fNo (x1 (biF noD (x1 (aa aE (cI 25) (aa aT (va 2) (cI 9))))))))) (ae (ak 10 (evX (lsF (dpF (x6 (cS "told") (cS "told") (cS "told") (cS "told") (cS "told") (aa ixD (lsF (dpF (x2 (cS "no row") (cS "told")))) (biF qF (x1 (va 6))))))) (dpF (x6 (cS "told") (cS "told") (cS "told") (cS "told") (cS "told") (aa ixD (lsF (dpF (x2 (cS "no row") (cS "told")))) (biF qF (x1 (va 6)))))) (fLs (x6 (frX (cS "told") noV noV) (frX (cS "told") noV noV) (frX (cS "told") noV noV) (frX (cS "told") noV noV) (frX (cS "told") noV noV) (frX (aa ixD (lsF (dpF (x2 (cS "no row") (cS "told")))) (biF qF (x1 (va 6)))) noV noV))))) (ae (ifS (ar (aa (aF true) (lsF (au [12] (jR (x1 (cI 6))) (gNm 12) tQ (clF aO (x4 (va 5) (va 12) (va 3) (aa cg (va 7) (cI 1)))))) (va 10))) (rtF (evV (cB false))) nxE) (ae (ifS (ar (aa (aF true) (clF aO (x4 (va 5) (cI 4) (va 3) (va 8))) (cS "no row"))) (rtF (evV (cB false))) nxE) (ae (ak 11 (evX (lsF (au [12] (jX noV (lsF (dpF (x3 (cI 1) (cI 2) (cI 5))))) (gNm 12) tQ (clF aO (x4 (va 5) (va 12) (va 4) (cI 0))))) (au [12] (jX noV (lsF (dpF (x3 (cI 1) (cI 2) (cI 5))))) (gNm 12) tQ (clF aO (x4 (va 5) (va 12) (va 4) (cI 0)))) (fCo [12] (jX noV (lsF (dpF (x3 (cI 1) (cI 2) (cI 5))))) (gNm 12) tQ (frX (clF aO (x4 (va 5) (va 12) (va 4) (cI 0))) noV (fCl aO (x4 (va 5) (va 12) (va 4) (cI 0))))))) (rtF (evV (aa (aF false) (lsF (xL (va 11) (lsF (au [12] (jX noV (lsF (dpF (x2 (cI 1) (cI 2))))) (gNm 12) tQ (clF aO (x4 (va 5) (va 12) (va 9) (cI 0))))))) (lsF (B3 (dpF (x1 (cS "bad row"))) (cI 5))))))))))))))))))))
theorem rK (hmi:uQ mi) (hv:Valid ps):mi [aA ps]=some [(("passes":Str),aA ps)]:=by
 have i1:(ps.map λp=>(false,p)).map (·.2)=ps:=by rw[List.map_map];exact List.map_id ps
 have i2:(ps.map λp=>(false,p)).map paD=ps.map tpD:=by rw[List.map_map];rfl
 have q:=hmi false (ps.map λp=>(false,p)) (by rw[i1];exact hv);rw[i1,i2]at q;exact q
theorem wv (hv:Valid ps) {T:List Sd} (h1:T.Perm (tol ps)) (h2:T.Pairwise λa b=>HT.lexLt [b.1,b.2] [a.1,a.2]=false):(T.map (·.2)).length=prod ps/\∀i,i<prod ps->((i:Int),(T.map (·.2)).getD i 0)∈tol ps:=by
 have hc:=tz (kI hv) h1 h2;have hl:T.length=prod ps:=by
  have:=congrArg List.length hc;rwa [length_map,length_map,length_range]at this
 refine⟨by rw[length_map,hl],λi hi=>?_⟩;have hi':i<T.length:=by omega
 have e1:(T.map (·.1))[i]?=some (T[i]).1:=by rw[getElem?_map,getElem?_eq_getElem hi'];rfl
 grind
structure Six (fa st co mr ra no ir ca:Fn) (zf zs zc zm zr zn z:Zf) (ask:Fn):Prop where
 ask':sAsk ca z ask
 cal':zCal zf zs zc zm zr zn z
 val':vCal fa st co mr ra no ca
 fa':tE fa
 st':CZ fa st
 co':u8 fa co
 mr':sMr fa mr
 ra':sRa fa ra
 no':sNo fa no
 ir':pG ir
 nr':GK ir
 zf':rJ zf
 zs':tL fa ir zs
 zc':tL fa ir zc
 zm':tK zm
 zr':GO fa zr
 zn':zNo zc co zn
section
variable {fa st co mr ra no ir ca ask:Fn} {zf zs zc zm zr zn z:Zf} (s:Six fa st co mr ra no ir ca zf zs zc zm zr zn z ask)
include s
theorem Six.shut (hv:Valid qs) (h0:zZ qs) (hl:bP [l]=some n):∀i:Nat,i<6->ask [af qs,iN i,l,x]=dp (.str "shut")
 |0,_=>s.ask'.shut _ _ _ _ ((s.cal'.w0 _ _ _).trans ((s.zf' qs hv).trans (jv h0)))
 |1,_=>s.ask'.shut _ _ _ _ ((s.cal'.w1 _ _ _).trans ((s.zs' qs l hv).1 _ (jv h0)))
 |2,_=>s.ask'.shut _ _ _ _ ((s.cal'.w2 _ _ _).trans ((s.zc' qs l hv).1 _ (jv h0)))
 |3,_=>s.ask'.shut _ _ _ _ ((s.cal'.w3 _ _ _ n hl).trans ((s.zm' qs n hv).trans (jv h0)))
 |4,_=>s.ask'.shut _ _ _ _ ((s.cal'.w4 _ _ _ n hl).trans ((s.zr' qs hv).1 _ _ _ (jv h0)))
 |5,_=>s.ask'.shut _ _ _ _ ((s.cal'.w5 _ _ _).trans ((s.zn' _ l).1 _ ((s.zc' qs l hv).1 _ (jv h0))))
 |i+6,h=>absurd h (by omega)
variable {ps:List (List Pk)} {S:List Int} (hv:Valid ps) (hw:Wide ps) (hf:fa [af ps]=dp (itD S)) (hS0:0<S.length) (hS:S.length<256)
include hv hw hf
theorem Six.bad (hq:qs.length<=60) (hb:Bad qs):ask [af ps,.int 1,itD qs,x]=dp (.str "bad row")/\ask [af ps,.int 2,itD qs,x]=dp (.str "bad row")/\ask [af ps,.int 5,itD qs,x]=dp (.str "bad row"):=by
 have e1:=(s.zs' ps (itD qs) hv).2 (j4 hw) S false hf (s.nr' qs hq hb);have e2:=(s.zc' ps (itD qs) hv).2 (j4 hw) S false hf (s.nr' qs hq hb);exact⟨s.ask'.bad _ _ _ _ ((s.cal'.w1 _ _ _).trans e1),s.ask'.bad _ _ _ _ ((s.cal'.w2 _ _ _).trans e2),s.ask'.bad _ _ _ _ ((s.cal'.w5 _ _ _).trans ((s.zn' _ _).1 _ e2))⟩
include hS0 hS
theorem Six.none (pm:r.Perm (List.range n)) (hn:n<=24) (hx:x<0\/(rows S n:Int)<=x):ask [af ps,.int 4,rowD r,.int x]=dp (.str "no row"):=by
 have hl:r.length=n:=by rw[pm.length_eq,length_range]
 refine s.ask'.no _ _ _ _ ((s.cal'.w4 _ _ _ (iN n) (by rw[c9,hl])).trans ?_);rw[(s.zr' ps hv).2 (j4 hw) S n x hf hS0 hS hn,if_neg (by omega)]
theorem Six.told (pm:r.Perm (List.range n)) (hn:n<=24):∀i:Nat,i<6->ask [af ps,iN i,rowD r,.int ((rows S n:Int)-1)]=dp (.str (if i=5 then(if(strt S r).isSome then"told"else"no row")else"told")):=by
 have hl:r.length=n:=by rw[pm.length_eq,length_range]
 have nl:bP [rowD r]=some (iN n):=by rw[c9,hl]
 have hr:=Ad (m:=n) hS0;obtain⟨w,hw'⟩:∃w:Nat,(w:Int)=(rows S n:Int)-1:=⟨rows S n-1,by omega⟩;have e2:=(s.zc' ps (rowD r) hv).2 (j4 hw) S true hf (s.ir' r n pm hn);have ec:=s.co' ps S r n hf pm hn;intro i hi;match i,hi with
 |0,_=>exact s.ask'.told _ _ _ _ _ ((s.cal'.w0 _ _ _).trans ((s.zf' ps hv).trans (j4 hw))) (s.val'.w0 _ _ _ _ hf)
 |1,_=>exact s.ask'.told _ _ _ _ _ ((s.cal'.w1 _ _ _).trans ((s.zs' ps (rowD r) hv).2 (j4 hw) S true hf (s.ir' r n pm hn))) (s.val'.w1 _ _ _ _ (s.st' ps S r n hf pm hn))
 |2,_=>exact s.ask'.told _ _ _ _ _ ((s.cal'.w2 _ _ _).trans e2) (s.val'.w2 _ _ _ _ ec)
 |3,_=>exact s.ask'.told _ _ _ _ _ ((s.cal'.w3 _ _ _ _ nl).trans ((s.zm' ps _ hv).trans (j4 hw))) (s.val'.w3 _ _ _ _ _ nl (s.mr' ps S n hf hS0 hS (by omega)))
 |4,_=>
  obtain⟨d,e⟩:=s.ra' ps S n w hf hS0 hS hn (by omega);rw[show iN w=.int ((rows S n:Int)-1)from congrArg D.int hw']at e;refine s.ask'.told _ _ _ _ _ ((s.cal'.w4 _ _ _ _ nl).trans ?_) (s.val'.w4 _ _ _ _ _ nl e);rw[(s.zr' ps hv).2 (j4 hw) S n _ hf hS0 hS hn,if_pos (by omega)]
 |5,_=>
  have ez:=(s.zn' (af ps) (rowD r)).2 e2 _ ec;cases q:(strt S r).isSome with
  |false=>
   rw[q]at ez;exact s.ask'.no _ _ _ _ ((s.cal'.w5 _ _ _).trans ez)
  |true=>
   rw[q]at ez;obtain⟨d,e⟩:=s.no' ps S r n hf hS0 hS pm hn q;exact s.ask'.told _ _ _ _ _ ((s.cal'.w5 _ _ _).trans ez) (s.val'.w5 _ _ _ _ e)
 |i+6,h=>exact absurd h (by omega)
end
abbrev sW (ns:List Int) (ps:List (List Pk)) (v:Int) (r:List Nat) (ws:List Int) (o5 o6 o7 o8 o9 o10 o11 o12:Option Sl):Ev:=[sn (scD ns),dp (aA ps),dp (.int v),dp (rowD r),dp (itD ws),o5,o6,o7,o8,o9,o10,o11,o12]
abbrev du (b:Bool):List D:=[.str "told",.str "told",.str "told",.str "told",.str "told",.str (if b then"told"else"no row")]
abbrev ba (n:Nat):List D:=List.replicate n (.str "bad row")
theorem Ay {R Sp} (h:R (vw Y)=some (af ps)) (hs:Sp (vw Y)=none) (h2:R (shv Y)=some (af ps)):evX R noV Sp Y=some ((.sh,af ps),Y):=yI h rfl rfl hs rfl h2
theorem DU:fNo xs Y=none:=by
 unfold fNo;cases xs Y<;>rfl
theorem J5 {ask mr lf can mi shu wr ce li sti sm fa st co ra no ir ca zf zs zc zm zr zn z} (s:Six fa st co mr ra no ir ca zf zs zc zm zr zn z ask) (hlf:sLF lf) (hcan:GI can) (hmi:uQ mi) (hsh:z0 shu) (hwr:sWr wr) (hce:rD ce) (hli:Aw li) (hst:rE sti) (hsm:tM sm) (ns:List Int) (hn:ns.length<=63):
  gJ (bj 1 13 (Ax ask mr lf can mi shu wr ce li sti sm) [scD ns])=some (.bl true):=by
 have hs:aq 13 [scD ns]=[sn (scD ns),none,none,none,none,none,none,none,none,none,none,none,none]:=rfl
 obtain⟨ps,hv,hw,h64,e1⟩:=hsm ns hn
 obtain⟨c4,q4⟩:=hce ns 4 hn (by decide)
 have q4:ce [scD ns,.int 4]=dp (.int c4):=q4
 obtain⟨v,v0,e2⟩:=hst c4 30 (by decide) (by decide)
 obtain⟨c5,q5⟩:=hce ns 5 hn (by decide)
 have q5:ce [scD ns,.int 5]=dp (.int c5):=q5
 have m5:=md c5 (show(0:Int)<12 by decide)
 obtain⟨n,hn5⟩:∃n:Nat,(n:Int)=c5%12:=⟨(c5%12).toNat,by omega⟩
 obtain⟨r,pm,e3⟩:=hli ns n hn (by omega)
 have hl:r.length=n:=by rw[pm.length_eq,length_range]
 have nl:bP [rowD r]=some (iN n):=by rw[c9,hl]
 obtain⟨ws,wl,wb,e4⟩:=hwr r n (v/8) pm (by omega) (Int.ediv_nonneg v0 (by decide))
 have y:seqD (aA ps)=some (ps.map tpD):=rfl
 refine congrArg gJ (a₂:=dp (.bl true)) (ao rfl ?_)
 rw[hs]
 have fin:∃a:Unit,Ax ask mr lf can mi shu wr ce li sti sm [sn (scD ns),none,none,none,none,none,none,none,none,none,none,none,none]=some (.rt (.deep,.bl true))/\True:=by
  unfold Ax;refine ax (s:=(.deep,aA ps)) (dB (ds:=[scD ns]) rfl e1) (ax (s:=(.deep,.int v)) (dB (ds:=[.int c4,.int 30]) ?_ e2) (ax (s:=(.deep,rowD r)) (dB (ds:=[scD ns,iN n]) ?_ e3) (ax (s:=(.deep,itD ws)) (dB (ds:=[rowD r,.int (v/8)]) ?_ e4) ?_)))
  ·simp only[sB,q4]
  ·simp only[sB,q5,aP (show(0:Int)<12 by decide),<-hn5]
  ·simp only[sB,bA (show(0:Int)<8 by decide) (by decide)]
  show∃a:Unit,ae (ifS _ _ _) _ (sW ns ps v r ws none none none none none none none none)=_/\True;have hcond:lq (ar (aa gtD (lnF (va 1)) (cI 0))) (ar (aa (aF false) (aa aT (va 2) (cI 3)) (cI 1))) (vw (sW ns ps v r ws none none none none none none none none))=some (decide (0<ps.length)&&decide (v%3=1)):=by
   simp only[sB,cU,y,length_map,Gu,aP (show(0:Int)<3 by decide),jQ];cases decide (0<ps.length)<;>rfl
  cases hc:(decide (0<ps.length)&&decide (v%3=1))with
  |true=>
   rw[hc]at hcond;rw[and_eq_true]at hc;obtain⟨qs,q1,q2,q3⟩:=hsh ps (v/3) hv (of_decide_eq_true hc.1);have q6:=rK hmi q1;have m64:=md (v/64) (show(0:Int)<2 by decide);obtain⟨l,nd,hl',hd⟩:∃l nd,ixD (.lst [rowD r,itD ws]) (.int (v/64%2))=some l/\bP [l]=some nd:=by
    by_cases q:v/64%2=0
    ·rw[q];exact⟨rowD r,_,rfl,nl⟩
    ·rw[show v/64%2=1 by omega];exact⟨itD ws,_,rfl,mw ws⟩
   refine⟨(),ox hcond (q_set (s:=(.sh,af qs)) (Y':=(sW ns ps v r ws none none none none none none none none)) (Ay ?_ DU ?_) (JH (n:=6) (v:=λi=>(i:Int)) (λi Y=>∃o,Y=(sW ns ps v r ws (sn (af qs)) none none none none none none o)) (f8 (bR (n:=6) (by decide))) ⟨none,rfl⟩ ?_ ?_)),trivial⟩
   ·simp only[sB,uN,bA (show(0:Int)<3 by decide) (by decide),q3,q6];rfl
   ·simp only[sB,lZ,l5,iR,kz,show lfD (aA ps)=true from pB ps,uP,uN,bA (show(0:Int)<3 by decide) (by decide),q3,q6];rfl
   ·rintro i Y hi ⟨o,rfl⟩;refine⟨(sW ns ps v r ws (sn (af qs)) none none none none none none (sn (iN i))),bG ?_ rfl,_,rfl⟩;simp only[sB,bA (show(0:Int)<64 by decide) (by decide),aP (show(0:Int)<2 by decide),aP (show(0:Int)<9 by decide),hl',s.shut q1 q2 hd i hi,qS];rfl
   ·rintro Y ⟨o,rfl⟩;exact bt (evX_lf rfl rfl)
  |false=>
   rw[hc]at hcond;have h256:prod ps<256:=by omega
   obtain⟨T,t1,t2,e5⟩:=s.fa' ps hv hw h64;obtain⟨hSl,hSt⟩:=wv hv t1 t2;generalize T.map (·.2)=S at e5 hSl hSt;have hp1:1<=prod ps:=by have:=mq hv 0 ps.length;rwa [List.drop_zero,List.take_length]at this
   have hS0:0<S.length:=by omega
   have hS:S.length<256:=by omega
   have e6:=hlf ps S hv h64 hSl hSt;have e7:=rK hmi hv;have e8:=hcan S r n hS0 pm (by omega);have e9:=s.mr' ps S n e5 hS0 hS (by omega);have m9:=md v (show(0:Int)<9 by decide);obtain⟨t,ht⟩:∃t:Nat,(t:Int)=25+v%9:=⟨(25+v%9).toNat,by omega⟩;have m8:=md (v/512) (show(0:Int)<4 by decide);obtain⟨d,⟨x,hx,rfl⟩,ex⟩:=LQ (ds:=[.int (-1),.int (rows S n:Int),.int (-1-v),.int ((rows S n:Int)+v)]) (i:=v/512%4) (λd=>∃x:Int,(x<0\/(rows S n:Int)<=x)/\d=.int x) m8.1 m8.2 (by
    intro d hd;simp only[mem_cons,List.not_mem_nil,or_false]at hd;rcases hd with rfl|rfl|rfl|rfl
    ·exact⟨_,.inl (by omega),rfl⟩
    ·exact⟨_,.inr (Int.le_refl _),rfl⟩
    ·exact⟨_,.inl (by omega),rfl⟩
    ·exact⟨_,.inr (by omega),rfl⟩)
   have ex:ixD (.lst [.int (-1),.int (rows S n:Int),.int (-1-v),.int ((rows S n:Int)+v)]) (.int (v/512%4))=some (.int x):=ex;have told:=s.told hv hw e5 hS0 hS pm (by omega);have none4:=s.none hv hw e5 hS0 hS pm (show n<=24 by omega) hx;obtain⟨b1,b2,b5⟩:=s.bad hv hw e5 (qs:=ws) (by omega) wb (x:=.int 0);obtain⟨l1,l2,_⟩:=s.bad hv hw e5 (qs:=(List.range t).map λ(k:Nat)=>(k:Int)) (by rw[length_map,length_range];omega) (.inl (by rw[length_map,length_range];omega)) (x:=.int 0);rw[<-At]at l1 l2;refine rc hcond (ax (s:=(.sh,af ps)) (Y':=(sW ns ps v r ws none none none none none none none none)) (Ay ?_ DU ?_) (ax (s:=(.deep,.bl (strt S r).isSome)) (dB (ds:=[itD S,rowD r]) ?_ e8) (ax (s:=(.deep,.int (rows S n:Int))) (dB (ds:=[af ps,iN n]) ?_ e9) (ax (s:=(.deep,.int x)) (evX_lf ?_ rfl) (ax (s:=(.deep,rowD (List.range t))) (Y':=(sW ns ps v r ws (sn (af ps)) (dp (.bl (strt S r).isSome)) (dp (.int (rows S n:Int))) (dp (.int x)) none none none none)) ?_ ?_)))))
   ·simp only[sB,uN,e7];rfl
   ·simp only[sB,lZ,l5,iR,kz,show lfD (aA ps)=true from pB ps,uP,uN,e7];rfl
   ·simp only[sB,e6]
   ·simp only[sB,nl]
   ·simp only[sB,uM,pw,Gk,bA (show(0:Int)<512 by decide) (by decide),aP (show(0:Int)<4 by decide),ex]
   ·have lg:orO (lrF (x1 (aa aE (cI 25) (aa aT (va 2) (cI 9))))) (l1F (x1 (biF noD (x1 (aa aE (cI 25) (aa aT (va 2) (cI 9))))))) (vw (sW ns ps v r ws (sn (af ps)) (dp (.bl (strt S r).isSome)) (dp (.int (rows S n:Int))) (dp (.int x)) none none none none))=some ((List.range t).map λ(k:Nat)=>D.int (k:Int)):=by
     refine JZ (by omega) ?_;simp only[sB,aP (show(0:Int)<9 by decide),<-ht]
    exact evX_lfs (d:=rowD (List.range t)) (jU lg) rfl lg (bM λd hd=>by obtain⟨p,_,rfl⟩:=List.mem_map.mp hd;rfl)
   ·generalize (strt S r).isSome=b at told;refine ax (s:=(.deep,.lst (du b))) (Y':=(sW ns ps v r ws (sn (af ps)) (dp (.bl b)) (dp (.int (rows S n:Int))) (dp (.int x)) (dp (rowD (List.range t))) none none none)) ?_ (rc ?_ (rc ?_ (ax (s:=(.deep,.lst [.str "bad row",.str "bad row",.str "bad row"])) (Y':=(sW ns ps v r ws (sn (af ps)) (dp (.bl b)) (dp (.int (rows S n:Int))) (dp (.int x)) (dp (rowD (List.range t))) (dp (.lst (du b))) none none)) ?_ ⟨(),bt (evX_lf ?_ rfl),trivial⟩)))
    ·cases b<;>exact evX_lfs (d:=.lst [.str "told",.str "told",.str "told",.str "told",.str "told",.str _]) (ds:=[.str "told",.str "told",.str "told",.str "told",.str "told",.str _]) rfl rfl rfl rfl
    ·have hm:au [12] (jR (x1 (cI 6))) (gNm 12) tQ (clF ask (x4 (va 5) (va 12) (va 3) (aa cg (va 7) (cI 1)))) (vw (sW ns ps v r ws (sn (af ps)) (dp (.bl b)) (dp (.int (rows S n:Int))) (dp (.int x)) (dp (rowD (List.range t))) (dp (.lst (du b))) none none))=some (du b):=by
      refine(aB (xs:=List.range 6) (mk:=λ(k:Nat)=>D.int (k:Int)) (out:=λi=>.str (if i=5 then(if b then"told"else"no row")else"told")) (f8 (by simp only[sB];exact bR (n:=6) (by decide))) (λi hi=>?_) (lt_big (by decide))).trans rfl;simp only[sB,told i (List.mem_range.mp hi)]
     show ar (aa (aF true) (lsF _) (va 10)) (vw (sW ns ps v r ws (sn (af ps)) (dp (.bl b)) (dp (.int (rows S n:Int))) (dp (.int x)) (dp (rowD (List.range t))) (dp (.lst (du b))) none none))=_;rw[testB_a,bin2_a,lsF_a,hm];simp only[sB];rw[pF true (by cases b<;>rfl) (by cases b<;>decide) rfl rfl];rfl
    ·show ar (aa (aF true) (clF ask _) (cS "no row")) (vw (sW ns ps v r ws (sn (af ps)) (dp (.bl b)) (dp (.int (rows S n:Int))) (dp (.int x)) (dp (rowD (List.range t))) (dp (.lst (du b))) none none))=_;simp only[sB,none4,qS];rfl
    ·have hm:au [12] (jX noV (lsF (dpF (x3 (cI 1) (cI 2) (cI 5))))) (gNm 12) tQ (clF ask (x4 (va 5) (va 12) (va 4) (cI 0))) (vw (sW ns ps v r ws (sn (af ps)) (dp (.bl b)) (dp (.int (rows S n:Int))) (dp (.int x)) (dp (rowD (List.range t))) (dp (.lst (du b))) none none))=some [.str "bad row",.str "bad row",.str "bad row"]:=by
      refine(aB (xs:=[(1:Int),2,5]) (mk:=D.int) (out:=λ_=>.str "bad row") rfl (λi hi=>?_) (lt_big (by decide))).trans rfl;simp only[mem_cons,List.not_mem_nil,or_false]at hi;simp only[sB];rcases hi with rfl|rfl|rfl
      ·rw[b1];rfl
      ·rw[b2];rfl
      ·rw[b5];rfl
     exact evX_lfs (d:=.lst [.str "bad row",.str "bad row",.str "bad row"]) (congrArg (Option.map D.lst) hm) rfl hm rfl
    ·have hm:au [12] (jX noV (lsF (dpF (x2 (cI 1) (cI 2))))) (gNm 12) tQ (clF ask (x4 (va 5) (va 12) (va 9) (cI 0))) (vw (sW ns ps v r ws (sn (af ps)) (dp (.bl b)) (dp (.int (rows S n:Int))) (dp (.int x)) (dp (rowD (List.range t))) (dp (.lst (du b))) (dp (.lst [.str "bad row",.str "bad row",.str "bad row"])) none))=some [.str "bad row",.str "bad row"]:=by
      refine(aB (xs:=[(1:Int),2]) (mk:=D.int) (out:=λ_=>.str "bad row") rfl (λi hi=>?_) (lt_big (by decide))).trans rfl;simp only[mem_cons,List.not_mem_nil,or_false]at hi;simp only[sB];rcases hi with rfl|rfl
      ·rw[l1];rfl
      ·rw[l2];rfl
     show aa (aF false) (lsF (xL (va 11) (lsF _))) (lsF (B3 _ _)) (vw (sW ns ps v r ws (sn (af ps)) (dp (.bl b)) (dp (.int (rows S n:Int))) (dp (.int x)) (dp (rowD (List.range t))) (dp (.lst (du b))) (dp (.lst [.str "bad row",.str "bad row",.str "bad row"])) none))=_;rw[bin2_a,lsF_a];unfold xL;rw[lsF_a,hm];exact pF false (d:=.lst [.str "bad row",.str "bad row",.str "bad row",.str "bad row",.str "bad row"]) rfl (by decide) rfl rfl
 obtain⟨_,fin,_⟩:=fin
 exact fin
end K20
namespace K20
open PySem PySem.Spec PyProof.Rows L2
def scK (N P:List Str) (sc:Scope):Bool:=decide (sc.kind=.function)&&(!sc.isCoroutine&&(!sc.isGenerator&&(decide N.Nodup&&(decide (N.take P.length=P)&&((P.all λx=>decide (sc.names.lookup x=some .local)||decide (sc.names.lookup x=some .cell))&&sc.names.all λy=>!decide (y.2=.free))))))
theorem scB (h:scK N P sc=true:=by kernel_rfl):FnScope N P sc:=by
 simp only[scK,and_eq_true,decide_eq_true_eq,Bool.not_eq_true',List.all_eq_true,Bool.or_eq_true,decide_eq_false_iff_not]at h;exact⟨h.1,h.2.1,h.2.2.1,h.2.2.2.1,h.2.2.2.2.1,h.2.2.2.2.2.1,h.2.2.2.2.2.2⟩
def top (i:Nat):Stmt:=PySem.Challenge.pw_pocketmill_k41_counting_refused.main.body.getD i (.Pass ⟨0,0,0,0⟩)
noncomputable def G0:Gb where
 fn:=λ_=>none
 cn:=λx=>if x=("KINDS":Str)then some (.tup [(.str "queue"),(.str "pile")])else if x=("MOST_PASSES":Str)then some (.int 6)else if x=("MOST_POCKETS":Str)then some (.int 6)else if x=("MOST_WIDTH":Str)then some (.int 9)else if x=("MOST_CODES":Str)then some (.int 1000)else if x=("MOST_LETTERS":Str)then some (.int 24)else none
 no:=λx=>if x=("all":Str)then true else if x=("any":Str)then true else if x=("bool":Str)then true else if x=("enumerate":Str)then true else if x=("int":Str)then true else if x=("isinstance":Str)then true else if x=("len":Str)then true else if x=("list":Str)then true else if x=("max":Str)then true else if x=("range":Str)then true else if x=("sorted":Str)then true else if x=("sum":Str)then true else if x=("tuple":Str)then true else false
 fl:=λC m=>if C=("Mill":Str)/\m=("passes":Str)then true else false
 mt:=λ_ _=>none
 ini:=λ_=>none
def XN:List Str:=["BadMill","BadPlan","BadRow","NoRow","Shut"]
def XR:List Str:=["BadMill","BadRow","NoRow","Shut"]
def tb:Str->Str->Option Bool:=tbX XN
def hb:Str->Bool:=hbX XN
def Z0:Zn:=⟨λx=>decide (x∈XR),λ_=>none,λ_=>none⟩
abbrev eH:Stmt:=top 13
abbrev m7:List Str:=["value","least","most"]
abbrev ng:List Str:=["value","least","most"]
def pS (x:Str) (st:Stmt) (ps:List Str) (us:List Value):Prop:=∀ (qual:Str) (kV doc pm:Value) (an:Option Addr) (cdv ct:Value),bindArgs (PySem.W.fnOf x qual (bV st) (aK st) (aj st) .none kV doc pm an cdv ct) ⟨us,[]⟩=pure (ps.zip us)
theorem bd1 {st} (e:ps.length=1) (h:∀u0,pS x st ps [u0]):cx x st ps:=λq k d p a c t us hl=>match us,hl.trans e with|[u0],_=>h u0 q k d p a c t
theorem bd2 {st} (e:ps.length=2) (h:∀u0 u1,pS x st ps [u0,u1]):cx x st ps:=λq k d p a c t us hl=>match us,hl.trans e with|[u0,u1],_=>h u0 u1 q k d p a c t
theorem bd3 {st} (e:ps.length=3) (h:∀u0 u1 u2,pS x st ps [u0,u1,u2]):cx x st ps:=λq k d p a c t us hl=>match us,hl.trans e with|[u0,u1,u2],_=>h u0 u1 u2 q k d p a c t
theorem bd4 {st} (e:ps.length=4) (h:∀u0 u1 u2 u3,pS x st ps [u0,u1,u2,u3]):cx x st ps:=λq k d p a c t us hl=>match us,hl.trans e with|[u0,u1,u2,u3],_=>h u0 u1 u2 u3 q k d p a c t
def aV:List D->Option Sl:=dfn 60 0 m7 ng eH G0
def G1:Gb:=addF G0 "is_within" 1 aV
abbrev eI:Stmt:=top 14
abbrev nj:List Str:=["pocket"]
abbrev nk:List Str:=["pocket"]
def di:List D->Option Sl:=dfn 60 1 nj nk eI G1
def G2:Gb:=addF G1 "is_pocket" 2 di
abbrev gq:Stmt:=top 15
abbrev rL:List Str:=["pockets","pocket"]
abbrev rM:List Str:=["pockets"]
def gG:List D->Option Sl:=dfn 60 2 rL rM gq G2
def G3:Gb:=addF G2 "is_pass" 3 gG
abbrev fF:Stmt:=top 17
abbrev pT:List Str:=["passes","product","pockets"]
abbrev pU:List Str:=["passes"]
def cX:List D->Option Sl:=dfn 60 3 pT pU fF G3
def G4:Gb:=addF G3 "codes_of" 4 cX
abbrev dX:Stmt:=top 16
abbrev mD:List Str:=["passes","pockets"]
abbrev mE:List Str:=["passes"]
def bC:List D->Option Sl:=dfn 60 4 mD mE dX G4
def G5:Gb:=addF G4 "are_passes" 5 bC
abbrev aD:Stmt:=A0 (top 18) 0
abbrev cE:List Str:=["self","passes","pockets"]
abbrev ej:List Str:=["self","passes"]
theorem iD:FnScope cE ej (aj aD):=scB
theorem i9:cx "__init__" aD ej:=bd2 rfl λ_ _ _ _ _ _ _ _ _=>rfl
theorem ja (y:Addr):inx 60 (qP cE aD 5 G5) y (G0.fl "Mill") (aK aD)=ma bC y:=by kernel_rfl
def mF:List D->Option (List (Str×D)):=gM bC
def G6:Gb:=addI G5 "Mill" 6 mF
abbrev mG:Stmt:=top 19
abbrev Az:List Str:=["kind","ahead","code"]
abbrev AA:List Str:=["kind","ahead","code"]
def pV:List D->Option Sl:=dfn 60 6 Az AA mG G6
def G7:Gb:=addF G6 "laid" 7 pV
abbrev cY:Stmt:=top 22
abbrev jw:List Str:=["pockets","size","ahead","sides","found","number","pocket","turn","code","side"]
abbrev jx:List Str:=["pockets","size","ahead","sides"]
def cF:List D->Option Sl:=dfn 60 7 jw jx cY G7
def G8:Gb:=addF G7 "sides_behind" 8 cF
abbrev dY:Stmt:=top 23
abbrev mH:List Str:=["mill","size","late","ahead","sides","pockets"]
abbrev mI:List Str:=["mill","size","late"]
def bX:List D->Option Sl:=dfn 60 8 mH mI dY G8
def G9:Gb:=addF G8 "open_sides" 9 bX
abbrev bD:Stmt:=top 25
abbrev dZ:List Str:=["mill","pockets","kind","width"]
abbrev d4:List Str:=["mill"]
def bY:List D->Option Sl:=dfn 60 9 dZ d4 bD G9
def G10:Gb:=addF G9 "look_at_widths" 10 bY
def bE:List D->Option Str:=dfz 60 9 dZ d4 bD G9 Z0
def Z10:Zn:=f9 Z0 "look_at_widths" 10 bE
abbrev gH:Stmt:=top 27
abbrev oy:List Str:=["mill","code","side"]
abbrev oz:List Str:=["mill"]
def aL:List D->Option Sl:=dfn 60 10 oy oz gH G10
def G11:Gb:=addF G10 "faces" 11 aL
def bZ:List D->Option Str:=dfz 60 10 oy oz gH G10 Z10
def Z11:Zn:=f9 Z10 "faces" 11 bZ
abbrev b4:Stmt:=top 31
abbrev eY:List Str:=["mill","m"]
abbrev eZ:List Str:=["mill","m"]
def ay:List D->Option Sl:=dfn 60 11 eY eZ b4 G11
def G12:Gb:=addF G11 "useful_sides" 12 ay
def bd:List D->Option Str:=dfz 60 11 eY eZ b4 G11 Z11
def Z12:Zn:=f9 Z11 "useful_sides" 12 bd
abbrev gr:Stmt:=top 28
abbrev rN:List Str:=["side","rising"]
abbrev rO:List Str:=["side","rising"]
def dO:List D->Option Sl:=dfn 60 12 rN rO gr G12
def G13:Gb:=addF G12 "goes_on" 13 dO
abbrev dC:Stmt:=top 33
abbrev kf:List Str:=["sides","stretch","below","place"]
abbrev kg:List Str:=["sides","stretch","below","place"]
def aW:List D->Option Sl:=dfn 60 13 kf kg dC G13
def G14:Gb:=addF G13 "stretch_for" 14 aW
abbrev gu:Stmt:=top 34
abbrev rP:List Str:=["sides","fewer","stretch","below","counts","place","further"]
abbrev rQ:List Str:=["sides","fewer","stretch","below"]
def bu:List D->Option Sl:=dfn 60 14 rP rQ gu G14
def G15:Gb:=addF G14 "choices" 15 bu
abbrev eJ:Stmt:=top 35
abbrev nn:List Str:=["sides","fewer","stretch","below"]
abbrev nq:List Str:=["sides","fewer","stretch"]
def bT:List D->Option Sl:=dfn 60 15 nn nq eJ G15
def G16:Gb:=addF G15 "ways_from" 16 bT
abbrev eK:Stmt:=top 36
abbrev nr:List Str:=["sides","m","tables","left","side","stretch"]
abbrev nt:List Str:=["sides","m"]
def aX:List D->Option Sl:=dfn 60 16 nr nt eK G16
def G17:Gb:=addF G16 "ways_left" 17 aX
abbrev dD:Stmt:=top 32
abbrev kh:List Str:=["sides","m"]
abbrev ki:List Str:=["sides","m"]
def aY:List D->Option Sl:=dfn 60 17 kh ki dD G17
def G18:Gb:=addF G17 "first_below" 18 aY
abbrev dE:Stmt:=top 37
abbrev kj:List Str:=["sides","tables","m"]
abbrev kl:List Str:=["sides","tables","m"]
def aZ:List D->Option Sl:=dfn 60 18 kj kl dE G18
def G19:Gb:=addF G18 "ways_in_all" 19 aZ
abbrev db:Stmt:=top 38
abbrev gW:List Str:=["mill","m","sides"]
abbrev gX:List Str:=["mill","m"]
def bb:List D->Option Sl:=dfn 60 19 gW gX db G19
def G20:Gb:=addF G19 "many_rows" 20 bb
def b9:List D->Option Str:=dfz 60 19 gW gX db G19 Z12
def Z20:Zn:=f9 Z12 "many_rows" 20 b9
abbrev cZ:Stmt:=top 42
abbrev jy:List Str:=["script","k","stir","cell"]
abbrev jz:List Str:=["script","k"]
def aH:List D->Option Sl:=dfn 60 20 jy jz cZ G20
def G21:Gb:=addF G20 "_law_cell_at" 21 aH
abbrev c6:Stmt:=top 43
abbrev jA:List Str:=["cell","k","stir"]
abbrev jB:List Str:=["cell","k"]
def aS:List D->Option Sl:=dfn 60 21 jA jB c6 G21
def G22:Gb:=addF G21 "_law_stirred" 22 aS
abbrev d5:Stmt:=top 44
abbrev mJ:List Str:=["passes","signs","codes","pockets","number","left","code","ahead","sign","pocket"]
abbrev mK:List Str:=["passes"]
def dI:List D->Option Sl:=dfn 60 22 mJ mK d5 G22
def G23:Gb:=addF G22 "_law_faces" 23 dI
abbrev c7:Stmt:=top 45
abbrev jC:List Str:=["sign","one","other"]
abbrev jD:List Str:=["sign","one","other"]
def cG:List D->Option Sl:=dfn 60 23 jC jD c7 G23
def G24:Gb:=addF G23 "_law_goes_on" 24 cG
abbrev fG:Stmt:=top 46
abbrev pW:List Str:=["signs","line","ends","sign","more","end","at","going"]
abbrev pX:List Str:=["signs","line"]
def fH:List D->Option Sl:=dfn 60 24 pW pX fG G24
def G25:Gb:=addF G24 "_law_can" 25 fH
abbrev d6:Stmt:=top 47
abbrev mL:List Str:=["script","passes","at","cell","kinds","k","kind"]
abbrev mM:List Str:=["script"]
def dJ:List D->Option Sl:=dfn 60 25 mL mM d6 G25
def G26:Gb:=addF G25 "_law_small" 26 dJ
abbrev eL:Stmt:=top 48
abbrev nu:List Str:=["passes","cell","at","pocket","pockets"]
abbrev nw:List Str:=["passes","cell"]
def dj:List D->Option Sl:=dfn 60 26 nu nw eL G26
def G27:Gb:=addF G26 "_law_shut" 27 dj
abbrev iE:Stmt:=top 26
abbrev tN:List Str:=["row","letter"]
abbrev tO:List Str:=["row"]
def cH:List D->Option Sl:=dfn 60 27 tN tO iE G27
def G28:Gb:=addF G27 "is_row" 28 cH
abbrev dc:Stmt:=top 29
abbrev gY:List Str:=["mill","row","sides","found","letter"]
abbrev gZ:List Str:=["mill","row"]
def bc:List D->Option Sl:=dfn 60 28 gY gZ dc G28
def G29:Gb:=addF G28 "stretches" 29 bc
def bp:List D->Option Str:=dfz 60 28 gY gZ dc G28 Z20
def Z29:Zn:=f9 Z20 "stretches" 29 bp
abbrev el:Stmt:=top 30
abbrev j5:List Str:=["mill","row"]
abbrev j6:List Str:=["mill","row"]
def bf:List D->Option Sl:=dfn 60 29 j5 j6 el G29
def G30:Gb:=addF G29 "come_to" 30 bf
def bx:List D->Option Str:=dfz 60 29 j5 j6 el G29 Z29
def Z30:Zn:=f9 Z29 "come_to" 30 bx
abbrev fI:Stmt:=top 39
abbrev mO:List Str:=["mill","m","number","sides","tables","letters","row","stretch","below","rest","counts","place"]
abbrev mP:List Str:=["mill","m","number"]
def dk:List D->Option Sl:=dfn 60 30 mO mP fI G30
def G31:Gb:=addF G30 "row_at" 31 dk
def d7:List D->Option Str:=dfz 60 30 mO mP fI G30 Z30
def Z31:Zn:=f9 Z30 "row_at" 31 d7
abbrev de:Stmt:=top 40
abbrev hU:List Str:=["mill","row","sides","tables","letters","stretch","below","number","letter","place"]
abbrev hW:List Str:=["mill","row"]
def dm:List D->Option Sl:=dfn 60 31 hU hW de G31
def G32:Gb:=addF G31 "number_of" 32 dm
def cb:List D->Option Str:=dfz 60 31 hU hW de G31 Z31
def Z32:Zn:=f9 Z31 "number_of" 32 cb
abbrev cf:Stmt:=top 49
abbrev fM:List Str:=["mill","way","line","number"]
abbrev fN:List Str:=["mill","way","line","number"]
def cc:List D->Option Sl:=dfn 60 32 fM fN cf G32
def G33:Gb:=addF G32 "_law_called" 33 cc
def bH:List D->Option Str:=dfz 60 32 fM fN cf G32 Z32
def Z33:Zn:=f9 Z32 "_law_called" 33 bH
abbrev bU:Stmt:=top 50
abbrev gv:List Str:=["mill","way","line","number","told","kinds","e","others"]
abbrev d8:List Str:=["mill","way","line","number"]
theorem km:FnScope gv d8 (aj bU):=scB
theorem mQ:cx "_law_asked" bU d8:=bd4 rfl λ_ _ _ _ _ _ _ _ _ _ _=>rfl
def aO:List D->Option Sl:=JE 60 33 gv d8 bU G33 Z33 tb hb
def G34:Gb:=addF G33 "_law_asked" 34 aO
abbrev eM:Stmt:=top 51
abbrev ny:List Str:=["script","many","line","k"]
abbrev nz:List Str:=["script","many"]
def en:List D->Option Sl:=dfn 60 34 ny nz eM G34
def G35:Gb:=addF G34 "_law_line" 35 en
abbrev d9:Stmt:=top 52
abbrev mR:List Str:=["line","cell","wrong","at"]
abbrev mS:List Str:=["line","cell"]
def dL:List D->Option Sl:=dfn 60 35 mR mS d9 G35
def G36:Gb:=addF G35 "_law_wrong" 36 dL
abbrev jb:Stmt:=top 53
abbrev vg:List Str:=["script","passes","cell","line","wrong","mill","can","count","number","longer","due","found","way"]
abbrev pY:List Str:=["script"]
theorem AB:FnScope vg pY (aj jb):=scB
theorem C6:cx "law" jb pY:=bd1 rfl λ_ _ _ _ _ _ _ _=>rfl
def J6:List D->Option Sl:=dfn 60 36 vg pY jb G36
structure Tx (K:Frag):Prop where
 v0:bo K "is_within" eH
 v1:bo K "is_pocket" eI
 v2:bo K "is_pass" gq
 v3:bo K "codes_of" fF
 v4:bo K "are_passes" dX
 v5:bo K "laid" mG
 v6:bo K "sides_behind" cY
 v7:bo K "open_sides" dY
 v8:bo K "look_at_widths" bD
 v9:bo K "faces" gH
 v10:bo K "useful_sides" b4
 v11:bo K "goes_on" gr
 v12:bo K "stretch_for" dC
 v13:bo K "choices" gu
 v14:bo K "ways_from" eJ
 v15:bo K "ways_left" eK
 v16:bo K "first_below" dD
 v17:bo K "ways_in_all" dE
 v18:bo K "many_rows" db
 v19:bo K "_law_cell_at" cZ
 v20:bo K "_law_stirred" c6
 v21:bo K "_law_faces" d5
 v22:bo K "_law_goes_on" c7
 v23:bo K "_law_can" fG
 v24:bo K "_law_small" d6
 v25:bo K "_law_shut" eL
 v26:bo K "is_row" iE
 v27:bo K "stretches" dc
 v28:bo K "come_to" el
 v29:bo K "row_at" fI
 v30:bo K "number_of" de
 v31:bo K "_law_called" cf
 v32:bo K "_law_asked" bU
 v33:bo K "_law_line" eM
 v34:bo K "_law_wrong" d9
 v35:bo K "law" jb
 v36:yH K "Mill" "__init__" "Mill.__init__" aD
 v37:TCls K "Mill"
 v38:∃Ca,nsIn K mainGlobals "Mill"=some (some (.ref Ca))/\findIn K (.ref Ca) "passes"=some none
 v39:∃ (a:Addr) (od:Option Addr) (n:Nat) (sl:Array (Option Value)) (t0:Tok) (t1:Tok),nsIn K mainGlobals "KINDS"=some (some (.ref a))/\K.lookup a=some ⟨.type "tuple",od,.seq #[.str "queue" t0,.str "pile" t1] n,sl⟩
 v40:∃t,nsIn K mainGlobals "MOST_PASSES"=some (some (.int 6 t))
 v41:∃t,nsIn K mainGlobals "MOST_POCKETS"=some (some (.int 6 t))
 v42:∃t,nsIn K mainGlobals "MOST_WIDTH"=some (some (.int 9 t))
 v43:∃t,nsIn K mainGlobals "MOST_CODES"=some (some (.int 1000 t))
 v44:∃t,nsIn K mainGlobals "MOST_LETTERS"=some (some (.int 24 t))
 v45:nsIn K mainGlobals "all"=some none
 v46:nsIn K mainGlobals "any"=some none
 v47:nsIn K mainGlobals "bool"=some none
 v48:nsIn K mainGlobals "enumerate"=some none
 v49:nsIn K mainGlobals "int"=some none
 v50:nsIn K mainGlobals "isinstance"=some none
 v51:nsIn K mainGlobals "len"=some none
 v52:nsIn K mainGlobals "list"=some none
 v53:nsIn K mainGlobals "max"=some none
 v54:nsIn K mainGlobals "range"=some none
 v55:nsIn K mainGlobals "sorted"=some none
 v56:nsIn K mainGlobals "sum"=some none
 v57:nsIn K mainGlobals "tuple"=some none
 v58:TExc K "BadMill"
 v59:TExc K "BadRow"
 v60:TExc K "NoRow"
 v61:TExc K "Shut"
 xs:TXs K XN
theorem gw:fA aV:=tr (yT)
theorem AC:pC di:=tr (yU gw)
theorem GT:yV gG:=tr (FN AC)
theorem vh:mf cX:=tr (Cm)
theorem J7:FO bC:=tr (Jo GT vh)
theorem GU:uQ mF:=FP J7
theorem AD:G0.fl "Mill" "passes"=true:=by kernel_rfl
theorem GV:y2 pV:=tr (FQ)
theorem AE:pI cF:=tr (zW GV)
theorem C7:tD bX:=tr (CQ AD AE vh)
theorem J8:Gj bY:=tr (JI AD)
theorem C8:tE aL:=tr (CT C7 J8)
theorem GW:rJ bE:=tr (GL AD)
theorem mT:rJ bZ:=tr (Au GW)
theorem tR:rD aH:=tr (GA)
theorem tT:rE aS:=tr (GB)
theorem Mt:sLF dI:=tr (L9)
theorem J9:sGo dO:=tr (Ma)
theorem GX:sSf aW:=tr (Mb J9)
theorem GY:sCh bu:=tr (Md GX)
theorem Mu:sWf bT:=tr (Mg GY)
theorem C9:sWl aX:=tr (Mh Mu)
theorem GZ:sFb aY:=tr (Mi)
theorem Ha:sIa aZ:=tr (Mj GZ)
theorem Da:sUs aL ay:=tr (Ml)
theorem DV:tK bd:=tr (GM mT)
theorem Mv:sMr aL bb:=tr (Mm C9 Ha Da)
theorem Ka:tK b9:=tr (C3 (us:=ay) DV)
theorem Kb:pG cH:=tr (CJ gw)
theorem Mw:GK cH:=tr (J0 gw)
theorem DW:CZ aL bc:=tr (JS J9 Kb)
theorem AF:tL aL cH bp:=tr (GN mT)
theorem AG:u8 aL bf:=tr (Gw DW)
theorem Db:tL aL cH bx:=tr (C4 AF)
theorem My:sRa aL dk:=tr (Mo GX GY GZ Ha gw C9 Da)
theorem Kc:GO aL d7:=tr (GP DV Da C9 Ha gw)
theorem Mz:sNo aL dm:=tr (Mp GX GY GZ C9 Da AG)
theorem Kd:zNo bx bf cb:=tr (J2)
theorem Ke:vCal aL bc bf bb dk dm cc:=tr (GR)
theorem Hb:zCal bZ bp bx b9 d7 cb bH:=tr (GQ (fa:=aL) (st:=bc) (co:=bf) (mr:=bb) (ra:=dk))
theorem Kf:sAsk cc bH aO:=tr (J3)
theorem MA:sLg cG:=tr (Mr)
theorem Kg:GI fH:=tr (JW MA)
theorem Dc:tM dJ:=tr (C5 tR tT)
theorem Hc:z0 dj:=tr (Gq)
theorem He:Aw en:=tr (GS tR tT)
theorem MB:sWr dL:=tr (Ms)
theorem Kh:∀ns:List Int,ns.length<=63->gJ (J6 [.lst (ns.map D.int)])=some (.bl true):=λns hn=>by
 exact tr (P:=λf:Fn=>gJ (f [.lst (ns.map D.int)])=some (.bl true)) (J5 ⟨Kf,Hb,Ke,C8,DW,AG,Mv,My,Mz,Kb,Mw,mT,AF,Db,Ka,Kc,Kd⟩ Mt Kg GU Hc MB tR He tT Dc ns hn)
noncomputable def Q:Program:={PySem.Challenge.pw_pocketmill_k41_counting_refused with main:={PySem.Challenge.pw_pocketmill_k41_counting_refused.main with body:=[top 1,top 2,top 3,top 4,top 5,top 6,top 8,top 9,top 10,top 11,top 12,top 13,top 14,top 15,top 16,top 17,top 18,top 19,top 20,top 22,top 23,top 25,top 26,top 27,top 28,top 29,top 30,top 31,top 32,top 33,top 34,top 35,top 36,top 37,top 38,top 39,top 40,top 42,top 43,top 44,top 45,top 46,top 47,top 48,top 49,top 50,top 51,top 52,top 53]}}
abbrev kH (P:Params) (x:Str) (n:Nat) (v:Value):DictEntry:=⟨PyData.keyHash P x,(.str x n),v⟩
noncomputable abbrev kC (x:Str) (a:Nat) (y:Str) (b c:Nat) (i j k l m:Int) (r:Nat) (n:Int) (p:Nat) (v q s t:Value) (u w:Int) (d:Nat):Obj:=⟨(.type "code"),none,(.fields #[(.str x a),(.str y b),(.str "/claim/cut.py" c),(.int i 0),(.int j 0),(.int k 0),(.int l 0),(.int m 0),(.ref r),(.bool true),(.int n 0),(.ref p),v,q,s,t,(.int u 0),(.int w 0),(.str "/claim/cut.py" d)]),#[]⟩
abbrev kF (x y:Str) (st:Stmt) (z:Str) (n r:Nat):Obj:=⟨(.type "function"),none,(.func (PySem.W.fnOf x y (bV st) (aK st) (aj st) .none .none .none (.str z n) none (.ref r) .none)),#[]⟩
theorem tdG {K} {st} (f:Addr) (z:Str) (n c:Nat) (a:(nsIn K mainGlobals x,K.lookup f,PySem.W.codeIn K (.ref c) x,PySem.W.keepIn K (.ref f))=(some (some (.ref f)),some ⟨.type "function",none,.func (PySem.W.fnOf x x (bV st) (aK st) (aj st) .none .none .none (.str z n) none (.ref c) .none),#[]⟩,true,true):=by kernel_rfl):bo K x st:=by
 simp only[Prod.mk.injEq]at a;exact LS a.1 a.2.1 a.2.2.1 a.2.2.2
abbrev mN0:Str:="law_pocketmill_k41_counting_refused"
abbrev mN1:Str:="pocketmill.counting"
abbrev mN2:Str:="pocketmill.least"
abbrev mN3:Str:="pocketmill.mills"
abbrev kD (x:Str) (a:Nat) (i j:Int) (r:Nat) (e:Int):Obj:=kC x a x (a+1) (a+2) i j 0 0 3 r 181 (r+1) .none (.ref (r+2)) (.ref (r+3)) (.ref (r+4)) e i (e+1).toNat
abbrev kE (x:Str) (a:Nat) (i j:Int) (r:Nat) (e:Int):Obj:=kC x a x (a+1) (a+2) i j 0 0 3 r 181 (r+1) .none .none .none (.ref (r+2)) e i (e+1).toNat
abbrev kG (x:Str) (st:Stmt) (z:Str) (n r:Nat):Obj:=kF x x st z n r
noncomputable def KK (P:Params):Frag:=[(2,⟨.none,none,(.dict #[] 0),#[]⟩),
 (3,⟨(.type "dict"),none,(.dict #[(kH P "__name__" 165 (.str "law_pocketmill_k41_counting_refused" 559)),(kH P "__doc__" 166 .none),(kH P "__package__" 167 .none),(kH P "__loader__" 168 (.builtin "__main__.__loader__#opaque")),(kH P "__spec__" 169 .none),(kH P "__annotations__" 170 (.ref 6)),(kH P "__builtins__" 171 (.ref 4)),(kH P "__file__" 173 (.str "/claim/cut.py" 172)),(kH P "__cached__" 174 .none),(kH P "MillError" 206 (.ref 24)),(kH P "BadMill" 222 (.ref 37)),(kH P "BadPlan" 238 (.ref 49)),(kH P "BadRow" 254 (.ref 61)),(kH P "NoRow" 270 (.ref 73)),(kH P "Shut" 286 (.ref 85)),(kH P "KINDS" 291 (.ref 88)),(kH P "MOST_PASSES" 293 (.int 6 292)),(kH P "MOST_POCKETS" 295 (.int 6 294)),(kH P "MOST_WIDTH" 297 (.int 9 296)),(kH P "MOST_CODES" 299 (.int 1000 298)),(kH P "is_within" 308 (.ref 95)),(kH P "is_pocket" 315 (.ref 102)),(kH P "is_pass" 321 (.ref 107)),(kH P "are_passes" 327 (.ref 112)),(kH P "codes_of" 336 (.ref 119)),(kH P "Mill" 377 (.ref 148)),(kH P "laid" 386 (.ref 159)),(kH P "MOST_LETTERS" 388 (.int 24 387)),(kH P "sides_behind" 396 (.ref 164)),(kH P "open_sides" 408 (.ref 171)),(kH P "look_at_widths" 416 (.ref 176)),(kH P "is_row" 422 (.ref 181)),(kH P "faces" 428 (.ref 186)),(kH P "goes_on" 436 (.ref 193)),(kH P "stretches" 447 (.ref 200)),(kH P "come_to" 455 (.ref 207)),(kH P "useful_sides" 463 (.ref 214)),(kH P "first_below" 471 (.ref 221)),(kH P "stretch_for" 481 (.ref 228)),(kH P "choices" 494 (.ref 235)),(kH P "ways_from" 500 (.ref 240)),(kH P "ways_left" 506 (.ref 245)),(kH P "ways_in_all" 515 (.ref 252)),(kH P "many_rows" 524 (.ref 259)),(kH P "row_at" 542 (.ref 266)),(kH P "number_of" 558 (.ref 273)),(kH P "_law_cell_at" 570 (.ref 280)),(kH P "_law_stirred" 579 (.ref 287)),(kH P "_law_faces" 585 (.ref 292)),(kH P "_law_goes_on" 594 (.ref 299)),(kH P "_law_can" 608 (.ref 306)),(kH P "_law_small" 614 (.ref 311)),(kH P "_law_shut" 625 (.ref 318)),(kH P "_law_called" 635 (.ref 325)),(kH P "_law_asked" 649 (.ref 332)),(kH P "_law_line" 659 (.ref 339)),(kH P "_law_wrong" 669 (.ref 346)),(kH P "law" 675 (.ref 351))] 58),#[]⟩),
 (22,⟨(.type "tuple"),none,(.seq #[] 0),#[]⟩),
 (23,⟨(.type "dict"),none,(.dict #[(kH P "__module__" 196 (.str "pocketmill.errors" 187)),(kH P "__firstlineno__" 200 (.int 2 199)),(kH P "__static_attributes__" 201 (.ref 22)),(kH P "__weakref__" 203 (.ref 25)),(kH P "__doc__" 204 .none)] 3),#[]⟩),
 (24,⟨(.type "type"),none,(.cls ⟨"MillError",[(.type "ValueError")],[(.ref 24),(.type "ValueError"),(.type "Exception"),(.type "BaseException"),(.type "object")],23,"MillError",true,[],[(.ref 37),(.ref 49),(.ref 61),(.ref 73),(.ref 85)],false,none,false⟩),#[(some (.ref 15)),none,(some (.str "MillError" 189)),(some (.str "MillError" 197)),(some (.builtin "ValueError.__new__")),(some (.bool true))]⟩),
 (25,⟨(.type "getset_descriptor"),none,(.fields #[(.str "__weakref__" 202),(.ref 24),(.builtin "ExceptionGroup.__weakref__"),.none]),#[]⟩),
 (35,⟨(.type "tuple"),none,(.seq #[] 0),#[]⟩),
 (36,⟨(.type "dict"),none,(.dict #[(kH P "__module__" 214 (.str "pocketmill.errors" 187)),(kH P "__firstlineno__" 218 (.int 4 217)),(kH P "__static_attributes__" 219 (.ref 35)),(kH P "__doc__" 220 .none)] 2),#[]⟩),
 (37,⟨(.type "type"),none,(.cls ⟨"BadMill",[(.ref 24)],[(.ref 37),(.ref 24),(.type "ValueError"),(.type "Exception"),(.type "BaseException"),(.type "object")],36,"BadMill",true,[],[],false,none,false⟩),#[(some (.ref 28)),none,(some (.str "BadMill" 207)),(some (.str "BadMill" 215)),(some (.builtin "ValueError.__new__")),(some (.bool true))]⟩),
 (47,⟨(.type "tuple"),none,(.seq #[] 0),#[]⟩),
 (48,⟨(.type "dict"),none,(.dict #[(kH P "__module__" 230 (.str "pocketmill.errors" 187)),(kH P "__firstlineno__" 234 (.int 6 233)),(kH P "__static_attributes__" 235 (.ref 47)),(kH P "__doc__" 236 .none)] 2),#[]⟩),
 (49,⟨(.type "type"),none,(.cls ⟨"BadPlan",[(.ref 24)],[(.ref 49),(.ref 24),(.type "ValueError"),(.type "Exception"),(.type "BaseException"),(.type "object")],48,"BadPlan",true,[],[],false,none,false⟩),#[(some (.ref 40)),none,(some (.str "BadPlan" 223)),(some (.str "BadPlan" 231)),(some (.builtin "ValueError.__new__")),(some (.bool true))]⟩),
 (59,⟨(.type "tuple"),none,(.seq #[] 0),#[]⟩),
 (60,⟨(.type "dict"),none,(.dict #[(kH P "__module__" 246 (.str "pocketmill.errors" 187)),(kH P "__firstlineno__" 250 (.int 8 249)),(kH P "__static_attributes__" 251 (.ref 59)),(kH P "__doc__" 252 .none)] 2),#[]⟩),
 (61,⟨(.type "type"),none,(.cls ⟨"BadRow",[(.ref 24)],[(.ref 61),(.ref 24),(.type "ValueError"),(.type "Exception"),(.type "BaseException"),(.type "object")],60,"BadRow",true,[],[],false,none,false⟩),#[(some (.ref 52)),none,(some (.str "BadRow" 239)),(some (.str "BadRow" 247)),(some (.builtin "ValueError.__new__")),(some (.bool true))]⟩),
 (71,⟨(.type "tuple"),none,(.seq #[] 0),#[]⟩),
 (72,⟨(.type "dict"),none,(.dict #[(kH P "__module__" 262 (.str "pocketmill.errors" 187)),(kH P "__firstlineno__" 266 (.int 10 265)),(kH P "__static_attributes__" 267 (.ref 71)),(kH P "__doc__" 268 .none)] 2),#[]⟩),
 (73,⟨(.type "type"),none,(.cls ⟨"NoRow",[(.ref 24)],[(.ref 73),(.ref 24),(.type "ValueError"),(.type "Exception"),(.type "BaseException"),(.type "object")],72,"NoRow",true,[],[],false,none,false⟩),#[(some (.ref 64)),none,(some (.str "NoRow" 255)),(some (.str "NoRow" 263)),(some (.builtin "ValueError.__new__")),(some (.bool true))]⟩),
 (83,⟨(.type "tuple"),none,(.seq #[] 0),#[]⟩),
 (84,⟨(.type "dict"),none,(.dict #[(kH P "__module__" 278 (.str "pocketmill.errors" 187)),(kH P "__firstlineno__" 282 (.int 12 281)),(kH P "__static_attributes__" 283 (.ref 83)),(kH P "__doc__" 284 .none)] 2),#[]⟩),
 (85,⟨(.type "type"),none,(.cls ⟨"Shut",[(.ref 24)],[(.ref 85),(.ref 24),(.type "ValueError"),(.type "Exception"),(.type "BaseException"),(.type "object")],84,"Shut",true,[],[],false,none,false⟩),#[(some (.ref 76)),none,(some (.str "Shut" 271)),(some (.str "Shut" 279)),(some (.builtin "ValueError.__new__")),(some (.bool true))]⟩),
 (88,⟨(.type "tuple"),none,(.seq #[(.str "queue" 289),(.str "pile" 290)] 0),#[]⟩),
 (94,(kD "is_within" 300 20 3 89 306)),
 (95,(kG "is_within" eH mN3 287 94)),
 (101,(kD "is_pocket" 309 22 1 96 313)),
 (102,(kG "is_pocket" eI mN3 287 101)),
 (106,(kE "is_pass" 316 26 1 103 319)),
 (107,(kG "is_pass" gq mN3 287 106)),
 (111,(kE "are_passes" 322 30 1 108 325)),
 (112,(kG "are_passes" dX mN3 287 111)),
 (118,(kD "codes_of" 328 34 1 113 334)),
 (119,(kG "codes_of" fF mN3 287 118)),
 (130,(kC "__init__" 349 "Mill.__init__" 350 351 41 2 0 0 3 127 181 128 .none .none .none (.ref 129) 352 41 353)),
 (131,(kF "__init__" "Mill.__init__" aD mN3 287 130)),
 (137,(kC "codes" 355 "Mill.codes" 356 357 46 1 0 0 3 132 181 133 .none (.ref 134) (.ref 135) (.ref 136) 359 46 360)),
 (144,(kC "many" 362 "Mill.many" 363 364 49 1 0 0 3 139 181 140 .none (.ref 141) (.ref 142) (.ref 143) 366 49 367)),
 (146,⟨(.type "tuple"),none,(.seq #[(.str "passes" 369)] 0),#[]⟩),
 (147,⟨(.type "dict"),none,(.dict #[(kH P "__module__" 344 (.str "pocketmill.mills" 287)),(kH P "__firstlineno__" 348 (.int 39 347)),(kH P "__init__" 354 (.ref 131)),(kH P "codes" 361 (.ref 138)),(kH P "many" 368 (.ref 145)),(kH P "__static_attributes__" 370 (.ref 146)),(kH P "__dict__" 372 (.ref 149)),(kH P "__weakref__" 374 (.ref 150)),(kH P "__doc__" 375 .none)] 4),#[]⟩),
 (148,⟨(.type "type"),none,(.cls ⟨"Mill",[(.type "object")],[(.ref 148),(.type "object")],147,"Mill",true,[],[],false,none,false⟩),#[none,none,(some (.str "Mill" 337)),(some (.str "Mill" 345)),(some (.builtin "object.__new__")),(some (.bool true))]⟩),
 (149,⟨(.type "getset_descriptor"),none,(.fields #[(.str "__dict__" 371),(.ref 148),(.builtin "function.__dict__"),(.builtin "function.__dict__#set")]),#[]⟩),
 (150,⟨(.type "getset_descriptor"),none,(.fields #[(.str "__weakref__" 373),(.ref 148),(.builtin "ExceptionGroup.__weakref__"),.none]),#[]⟩),
 (158,(kD "laid" 378 51 3 153 384)),
 (159,(kG "laid" mG mN3 287 158)),
 (163,(kE "sides_behind" 391 55 4 160 394)),
 (164,(kG "sides_behind" cY mN2 389 163)),
 (170,(kD "open_sides" 397 62 3 165 406)),
 (171,(kG "open_sides" dY mN2 389 170)),
 (175,(kE "look_at_widths" 411 70 1 172 414)),
 (176,(kG "look_at_widths" bD mN1 409 175)),
 (180,(kE "is_row" 417 74 1 177 420)),
 (181,(kG "is_row" iE mN1 409 180)),
 (185,(kE "faces" 423 78 1 182 426)),
 (186,(kG "faces" gH mN1 409 185)),
 (192,(kD "goes_on" 429 81 2 187 434)),
 (193,(kG "goes_on" gr mN1 409 192)),
 (199,(kD "stretches" 437 83 2 194 445)),
 (200,(kG "stretches" dc mN1 409 199)),
 (206,(kD "come_to" 448 96 2 201 453)),
 (207,(kG "come_to" el mN1 409 206)),
 (213,(kD "useful_sides" 456 98 2 208 461)),
 (214,(kG "useful_sides" b4 mN1 409 213)),
 (220,(kD "first_below" 464 100 2 215 469)),
 (221,(kG "first_below" dD mN1 409 220)),
 (227,(kD "stretch_for" 472 102 4 222 479)),
 (228,(kG "stretch_for" dC mN1 409 227)),
 (234,(kD "choices" 482 104 4 229 492)),
 (235,(kG "choices" gu mN1 409 234)),
 (239,(kE "ways_from" 495 110 3 236 498)),
 (240,(kG "ways_from" eJ mN1 409 239)),
 (244,(kE "ways_left" 501 112 2 241 504)),
 (245,(kG "ways_left" eK mN1 409 244)),
 (251,(kD "ways_in_all" 507 117 3 246 513)),
 (252,(kG "ways_in_all" dE mN1 409 251)),
 (258,(kD "many_rows" 516 119 2 253 522)),
 (259,(kG "many_rows" db mN1 409 258)),
 (265,(kD "row_at" 525 122 3 260 540)),
 (266,(kG "row_at" fI mN1 409 265)),
 (272,(kD "number_of" 543 142 2 267 556)),
 (273,(kG "number_of" de mN1 409 272)),
 (279,(kD "_law_cell_at" 561 159 2 274 568)),
 (280,(kG "_law_cell_at" cZ mN0 559 279)),
 (286,(kD "_law_stirred" 571 166 2 281 577)),
 (287,(kG "_law_stirred" c6 mN0 559 286)),
 (291,(kE "_law_faces" 580 170 1 288 583)),
 (292,(kG "_law_faces" d5 mN0 559 291)),
 (298,(kD "_law_goes_on" 586 190 3 293 592)),
 (299,(kG "_law_goes_on" c7 mN0 559 298)),
 (305,(kD "_law_can" 595 194 2 300 606)),
 (306,(kG "_law_can" fG mN0 559 305)),
 (310,(kE "_law_small" 609 208 1 307 612)),
 (311,(kG "_law_small" d6 mN0 559 310)),
 (317,(kD "_law_shut" 615 215 2 312 623)),
 (318,(kG "_law_shut" eL mN0 559 317)),
 (324,(kD "_law_called" 626 220 4 319 633)),
 (325,(kG "_law_called" cf mN0 559 324)),
 (331,(kD "_law_asked" 636 232 4 326 647)),
 (332,(kG "_law_asked" bU mN0 559 331)),
 (338,(kD "_law_line" 650 252 2 333 657)),
 (339,(kG "_law_line" eM mN0 559 338)),
 (345,(kD "_law_wrong" 660 257 2 340 667)),
 (346,(kG "_law_wrong" d9 mN0 559 345)),
 (350,(kE "law" 670 267 1 347 673)),
 (351,(kG "law" jb mN0 559 350))]
noncomputable def adr:List Addr:=[2,3,22,23,24,25,35,36,37,47,48,49,59,60,61,71,72,73,83,84,85,88,94,95,101,102,106,107,111,112,118,119,130,131,137,144,146,147,148,149,150,158,159,163,164,170,171,175,176,180,181,185,186,192,193,199,200,206,207,213,214,220,221,227,228,234,235,239,240,244,245,251,252,258,259,265,266,272,273,279,280,286,287,291,292,298,299,305,306,310,311,317,318,324,325,331,332,338,339,345,346,350,351]
theorem adr_ok (P:Params):adr=(KK P).map (·.1):=by kernel_rfl
abbrev NN:Nat:=5586
def env0:Env:={scope:=PySem.Challenge.pw_pocketmill_k41_counting_refused.main.scope,locals:=mainNs,globals:=mainNs,cells:=[],code:=(.ref 13),frame:=some 14}
theorem Hf:∀w:World,(PySem.W.fencedOpening treeTable PySem.Challenge.pw_pocketmill_k41_counting_refused w NN).map (λs=>(s.heap,s.gens,s.drawn,s.toks))=some (PySem.W.boot_heap w.params,Array.mk [],PySem.W.boot_drawn,PySem.W.boot_toks):=PySem.W.boot_open (by kernel_rfl) (by decide) (λs=>by kernel_rfl)
theorem Hg (w:World):(PySem.W.boot_heap w.params).isNs mainGlobals=true/\(PySem.W.boot_heap w.params).objs.size=11/\(PySem.W.boot_heap w.params).nsMap mainGlobals "__annotations__"=(some (.ref 6)):=⟨by kernel_rfl,by kernel_rfl,by kernel_rfl⟩
theorem t_A (w:World) (os:OsState):(HD.A PySem.Challenge.pw_pocketmill_k41_counting_refused 11 (some (.ref 6)) 12 w os).map (·.2)=some ⟨denote treeTable (HD.cd PySem.Challenge.pw_pocketmill_k41_counting_refused env0),HD.cd PySem.Challenge.pw_pocketmill_k41_counting_refused env0,⟨0,0,0,0⟩,[PySem.W.topFrame ⟨0,0,0,0⟩]⟩:=by kernel_rfl
theorem t_B (w:World) (os:OsState):(HD.B PySem.Challenge.pw_pocketmill_k41_counting_refused 11 ((some (.ref 6))) env0 ⟨0,0,0,0⟩ ⟨0,0,0,0⟩ 12 1 w os).map (λr=>(r.1,r.2.2))=some (.next,HD.cd PySem.Challenge.pw_pocketmill_k41_counting_refused env0,⟨0,0,0,0⟩):=by kernel_rfl
theorem t_T (w:World) (os:OsState):(HD.toT (HD.SB PySem.Challenge.pw_pocketmill_k41_counting_refused 11 ((some (.ref 6))) env0 ⟨0,0,0,0⟩ ⟨0,0,0,0⟩ 12 1 w os)).abs=HD.SB PySem.Challenge.pw_pocketmill_k41_counting_refused 11 ((some (.ref 6))) env0 ⟨0,0,0,0⟩ ⟨0,0,0,0⟩ 12 1 w os:=by kernel_rfl
theorem t_C (w:World) (os:OsState):(HD.C PySem.Challenge.pw_pocketmill_k41_counting_refused 11 ((some (.ref 6))) env0 ⟨0,0,0,0⟩ ⟨0,0,0,0⟩ ⟨0,0,0,0⟩ 12 1 2731 w os).map (λr=>(r.1,r.2.2))=some (.next,HD.cd PySem.Challenge.pw_pocketmill_k41_counting_refused env0,⟨267,0,289,90⟩):=by kernel_rfl
theorem t_F (w:World) (s:Shared):PySem.W.topRun treeTable PySem.Challenge.pw_pocketmill_k41_counting_refused w 11 (some (.ref 6)) 2 s ⟨PySem.W.doneF .next,HD.cd PySem.Challenge.pw_pocketmill_k41_counting_refused env0,⟨267,0,289,90⟩,[PySem.W.topFrame ⟨0,0,0,0⟩]⟩=some s:=by kernel_rfl
noncomputable abbrev FF (w:World) (os:OsState):Shared:=(HD.SC PySem.Challenge.pw_pocketmill_k41_counting_refused 11 ((some (.ref 6))) env0 ⟨0,0,0,0⟩ ⟨0,0,0,0⟩ ⟨0,0,0,0⟩ 12 1 2731 w os).abs
abbrev XT (s:Shared):Bool:=PySem.W.xlAt Q [] s&&PySem.W.recOk PySem.Challenge.rw_pocketmill_k41_counting_refused.row.records s
theorem MC (w:World) (os:OsState):(PySem.W.staticsOk (importedModules PySem.Challenge.pw_pocketmill_k41_counting_refused.main.body) (PySem.W.boot_heap w.params) (FF w os).heap&&PySem.W.namesBound PySem.Challenge.pw_pocketmill_k41_counting_refused (FF w os).heap&&PySem.W.gensDone (FF w os)&&PySem.W.laidKept (PySem.W.boot_heap w.params) (FF w os).heap)=true:=by
 rw[PySem.W.Fast.te5923862056798008813];kernel_rfl
theorem MD (w:World) (os:OsState):PySem.W.openSeen Q [] (importedModules PySem.Challenge.pw_pocketmill_k41_counting_refused.main.body) XT true (FF w os)=PySem.W.openGood Q []:=by
 rw[PySem.W.Fast.te5923862056798008813,PySem.W.Fast.te4187177175401517315];kernel_rfl
theorem ME (w:World) (os:OsState):adr.map (FF w os).heap.get?=(KK w.params).map λp=>some p.2:=by kernel_rfl
theorem t_left:PySem.W.LeftO PySem.Challenge.pw_pocketmill_k41_counting_refused Q [] XT (PySem.W.Hook.obs (PySem.W.kHook KK adr adr_ok)) (PySem.W.Hook.val (PySem.W.kHook KK adr adr_ok)) NN:=
 HD.left_of Hf Hg (HD.run_of t_A t_B t_T t_C t_F) (by decide) λw os=>by rw[MC w os,MD w os];exact congrArg (λz=>(true,PySem.W.openGood Q [],z)) (ME w os)
theorem jc (P:Params):yH (KK P) "Mill" "__init__" "Mill.__init__" aD:=LU (Ca:=148) (f:=131) (oc:=(.type "function")) (od:=none) (an:=none) (osl:=#[]) (kV:=.none) (doc:=.none) (pm:=(.str "pocketmill.mills" 287)) (cdv:=(.ref 130)) (ct:=.none) (by kernel_rfl) (by kernel_rfl) (by kernel_rfl) (by kernel_rfl) (by kernel_rfl) (by kernel_rfl)
theorem rR (P:Params):TExc (KK P) "BadMill":=CG (nm:="BadMill") (qn:="BadMill") (C:=37) (N:=36) (bs:=[(.ref 24)]) (bm:=[(.ref 24),(.type "ValueError"),(.type "Exception"),(.type "BaseException"),(.type "object")]) (hdct:=true) (sn:=[]) (sub:=[]) (ab:=false) (col:=none) (dd:=none) (k0:=(some (.ref 28))) (k1:=none) (k2:=(some (.str "BadMill" 207))) (k3:=(some (.str "BadMill" 215))) (k5:=(some (.bool true))) (by kernel_rfl) (by kernel_rfl) (by kernel_rfl) (by kernel_rfl) (by kernel_rfl)
theorem tU (P:Params):TExc (KK P) "BadRow":=CG (nm:="BadRow") (qn:="BadRow") (C:=61) (N:=60) (bs:=[(.ref 24)]) (bm:=[(.ref 24),(.type "ValueError"),(.type "Exception"),(.type "BaseException"),(.type "object")]) (hdct:=true) (sn:=[]) (sub:=[]) (ab:=false) (col:=none) (dd:=none) (k0:=(some (.ref 52))) (k1:=none) (k2:=(some (.str "BadRow" 239))) (k3:=(some (.str "BadRow" 247))) (k5:=(some (.bool true))) (by kernel_rfl) (by kernel_rfl) (by kernel_rfl) (by kernel_rfl) (by kernel_rfl)
theorem ww (P:Params):TExc (KK P) "NoRow":=CG (nm:="NoRow") (qn:="NoRow") (C:=73) (N:=72) (bs:=[(.ref 24)]) (bm:=[(.ref 24),(.type "ValueError"),(.type "Exception"),(.type "BaseException"),(.type "object")]) (hdct:=true) (sn:=[]) (sub:=[]) (ab:=false) (col:=none) (dd:=none) (k0:=(some (.ref 64))) (k1:=none) (k2:=(some (.str "NoRow" 255))) (k3:=(some (.str "NoRow" 263))) (k5:=(some (.bool true))) (by kernel_rfl) (by kernel_rfl) (by kernel_rfl) (by kernel_rfl) (by kernel_rfl)
theorem AH (P:Params):TExc (KK P) "Shut":=CG (nm:="Shut") (qn:="Shut") (C:=85) (N:=84) (bs:=[(.ref 24)]) (bm:=[(.ref 24),(.type "ValueError"),(.type "Exception"),(.type "BaseException"),(.type "object")]) (hdct:=true) (sn:=[]) (sub:=[]) (ab:=false) (col:=none) (dd:=none) (k0:=(some (.ref 76))) (k1:=none) (k2:=(some (.str "Shut" 271))) (k3:=(some (.str "Shut" 279))) (k5:=(some (.bool true))) (by kernel_rfl) (by kernel_rfl) (by kernel_rfl) (by kernel_rfl) (by kernel_rfl)
theorem MF (P:Params):TXs (KK P) XN:=txs (M:=24) [("BadMill",37),("BadPlan",49),("BadRow",61),("NoRow",73),("Shut",85)] (by kernel_rfl) (by kernel_rfl) (by kernel_rfl) (by kernel_rfl)
theorem tx (P:Params):Tx (KK P):=⟨tdG 95 mN3 287 94,tdG 102 mN3 287 101,tdG 107 mN3 287 106,tdG 119 mN3 287 118,tdG 112 mN3 287 111,tdG 159 mN3 287 158,tdG 164 mN2 389 163,tdG 171 mN2 389 170,tdG 176 mN1 409 175,tdG 186 mN1 409 185,tdG 214 mN1 409 213,tdG 193 mN1 409 192,tdG 228 mN1 409 227,tdG 235 mN1 409 234,tdG 240 mN1 409 239,tdG 245 mN1 409 244,tdG 221 mN1 409 220,tdG 252 mN1 409 251,tdG 259 mN1 409 258,tdG 280 mN0 559 279,tdG 287 mN0 559 286,tdG 292 mN0 559 291,tdG 299 mN0 559 298,tdG 306 mN0 559 305,tdG 311 mN0 559 310,tdG 318 mN0 559 317,tdG 181 mN1 409 180,tdG 200 mN1 409 199,tdG 207 mN1 409 206,tdG 266 mN1 409 265,tdG 273 mN1 409 272,tdG 325 mN0 559 324,tdG 332 mN0 559 331,tdG 339 mN0 559 338,tdG 346 mN0 559 345,tdG 351 mN0 559 350,jc P,LV (Ca:=148) (by kernel_rfl) (by kernel_rfl) (by kernel_rfl) (by kernel_rfl) (by kernel_rfl) (by kernel_rfl) (by kernel_rfl),tno (Ca:=148) (by kernel_rfl) (by kernel_rfl),Jr (a:=88) (od:=none) (n:=0) (sl:=#[]) (t0:=289) (t1:=290) (by kernel_rfl) (by kernel_rfl),y3 (t:=292) (by kernel_rfl),y3 (t:=294) (by kernel_rfl),y3 (t:=296) (by kernel_rfl),y3 (t:=298) (by kernel_rfl),y3 (t:=387) (by kernel_rfl),(by kernel_rfl),(by kernel_rfl),(by kernel_rfl),(by kernel_rfl),(by kernel_rfl),(by kernel_rfl),(by kernel_rfl),(by kernel_rfl),(by kernel_rfl),(by kernel_rfl),(by kernel_rfl),(by kernel_rfl),(by kernel_rfl),rR P,tU P,ww P,AH P,MF P⟩
section
variable {P:Program} {w:World} {K:Frag} {mg:Str->Option Value} {base h:Heap}
theorem gF {st} (z:K.In base/\base.Ns mainGlobals mg/\Tx K) (g:GbOk P w K mg base G) (k:Nat) (t:bo K x st) (S:FnScope N ps (aj st):=by exact scB) (b:cx x st ps:=by first|exact bd1 rfl λ_ _ _ _ _ _ _ _=>rfl|exact bd2 rfl λ_ _ _ _ _ _ _ _ _=>rfl|exact bd3 rfl λ_ _ _ _ _ _ _ _ _ _=>rfl|exact bd4 rfl λ_ _ _ _ _ _ _ _ _ _ _=>rfl):GbOk P w K mg base (addF G x (k+1) (dfn 60 k N ps st G)):=g.addF (Jd g z.1 z.2.1 60 k S b t)
theorem zF {st} (z:K.In base/\base.Ns mainGlobals mg/\Tx K) (g:GbOk P w K mg base G) (q:ZOk P w K mg base Z) (k:Nat) (t:bo K x st) (S:FnScope N ps (aj st):=by exact scB) (b:cx x st ps:=by first|exact bd1 rfl λ_ _ _ _ _ _ _ _=>rfl|exact bd2 rfl λ_ _ _ _ _ _ _ _ _=>rfl|exact bd3 rfl λ_ _ _ _ _ _ _ _ _ _=>rfl|exact bd4 rfl λ_ _ _ _ _ _ _ _ _ _ _=>rfl):ZOk P w K mg base (f9 Z x (k+1) (dfz 60 k N ps st G Z)):=q.addf (Jx g q z.1 z.2.1 60 k S b t)
variable (z:K.In base/\base.Ns mainGlobals mg/\Tx K)
include z
theorem g0:GbOk P w K mg base G0 where
 fn:=λx k f e=>nomatch e
 cn:=λx d e=>by
  simp only[G0]at e;split at e
  ·rename_i q;cases e;rw[q];exact cn_2str z.1 z.2.1 z.2.2.v39
  split at e
  ·rename_i q;cases e;rw[q];exact cn_int z.1 z.2.1 z.2.2.v40
  split at e
  ·rename_i q;cases e;rw[q];exact cn_int z.1 z.2.1 z.2.2.v41
  split at e
  ·rename_i q;cases e;rw[q];exact cn_int z.1 z.2.1 z.2.2.v42
  split at e
  ·rename_i q;cases e;rw[q];exact cn_int z.1 z.2.1 z.2.2.v43
  split at e
  ·rename_i q;cases e;rw[q];exact cn_int z.1 z.2.1 z.2.2.v44
  cases e
 no:=λx e=>by
  dsimp only[G0]at e;by_cases q:x=("all":Str)
  ·rw[q];exact PySem.W.mg_none_of z.1 z.2.1 z.2.2.v45
  rw[if_neg q]at e;clear q;by_cases q:x=("any":Str)
  ·rw[q];exact PySem.W.mg_none_of z.1 z.2.1 z.2.2.v46
  rw[if_neg q]at e;clear q;by_cases q:x=("bool":Str)
  ·rw[q];exact PySem.W.mg_none_of z.1 z.2.1 z.2.2.v47
  rw[if_neg q]at e;clear q;by_cases q:x=("enumerate":Str)
  ·rw[q];exact PySem.W.mg_none_of z.1 z.2.1 z.2.2.v48
  rw[if_neg q]at e;clear q;by_cases q:x=("int":Str)
  ·rw[q];exact PySem.W.mg_none_of z.1 z.2.1 z.2.2.v49
  rw[if_neg q]at e;clear q;by_cases q:x=("isinstance":Str)
  ·rw[q];exact PySem.W.mg_none_of z.1 z.2.1 z.2.2.v50
  rw[if_neg q]at e;clear q;by_cases q:x=("len":Str)
  ·rw[q];exact PySem.W.mg_none_of z.1 z.2.1 z.2.2.v51
  rw[if_neg q]at e;clear q;by_cases q:x=("list":Str)
  ·rw[q];exact PySem.W.mg_none_of z.1 z.2.1 z.2.2.v52
  rw[if_neg q]at e;clear q;by_cases q:x=("max":Str)
  ·rw[q];exact PySem.W.mg_none_of z.1 z.2.1 z.2.2.v53
  rw[if_neg q]at e;clear q;by_cases q:x=("range":Str)
  ·rw[q];exact PySem.W.mg_none_of z.1 z.2.1 z.2.2.v54
  rw[if_neg q]at e;clear q;by_cases q:x=("sorted":Str)
  ·rw[q];exact PySem.W.mg_none_of z.1 z.2.1 z.2.2.v55
  rw[if_neg q]at e;clear q;by_cases q:x=("sum":Str)
  ·rw[q];exact PySem.W.mg_none_of z.1 z.2.1 z.2.2.v56
  rw[if_neg q]at e;clear q;by_cases q:x=("tuple":Str)
  ·rw[q];exact PySem.W.mg_none_of z.1 z.2.1 z.2.2.v57
  rw[if_neg q]at e;clear q;cases e
 fl:=λC m Ca e hc=>by
  simp only[G0]at e;split at e
  ·rename_i q;rw[q.1]at hc;exact⟨Cq z.2.2.v37 hc,fl_one z.2.2.v38 q.2 Ca hc⟩
  cases e
 mt:=λm C k f e=>nomatch e
 ini:=λC k g e=>nomatch e
theorem zz0:ZOk P w K mg base Z0 where
 cl:=λx hx=>by
  have hx:x∈XR:=of_decide_eq_true hx;unfold XR at hx;rcases mem_cons.mp hx with q|hx
  ·rw[q];exact z.2.2.v58.r z.1 z.2.1
  rcases mem_cons.mp hx with q|hx
  ·rw[q];exact z.2.2.v59.r z.1 z.2.1
  rcases mem_cons.mp hx with q|hx
  ·rw[q];exact z.2.2.v60.r z.1 z.2.1
  rcases mem_cons.mp hx with q|hx
  ·rw[q];exact z.2.2.v61.r z.1 z.2.1
  cases hx
 df:=λ_ _ _ e=>nomatch e
 mz:=λ_ _ _ e=>nomatch e
theorem g1:GbOk P w K mg base G1:=gF z (g0 z) 0 z.2.2.v0
theorem g2:GbOk P w K mg base G2:=gF z (g1 z) 1 z.2.2.v1
theorem g3:GbOk P w K mg base G3:=gF z (g2 z) 2 z.2.2.v2
theorem g4:GbOk P w K mg base G4:=gF z (g3 z) 3 z.2.2.v3
theorem g5:GbOk P w K mg base G5:=gF z (g4 z) 4 z.2.2.v4
theorem g6:GbOk P w K mg base G6:=by
 have g:GbOk P w K mg base G5:=g5 z;exact g.addI (Je g z.1 z.2.1 60 5 (G0.fl "Mill") iD i9 z.2.2.v37 z.2.2.v36 (λf e=>by
  simp only[G0]at e;split at e
  ·rename_i q;exact fl_one z.2.2.v38 q.2
  cases e) (λds r hr y=>by
  rw[show(λy=>inx 60 (qP cE aD 5 G5) y (G0.fl "Mill") (aK aD))=ma bC from funext ja];exact tm ds r hr y))
theorem g7:GbOk P w K mg base G7:=gF z (g6 z) 6 z.2.2.v5
theorem g8:GbOk P w K mg base G8:=gF z (g7 z) 7 z.2.2.v6
theorem g9:GbOk P w K mg base G9:=gF z (g8 z) 8 z.2.2.v7
theorem g10:GbOk P w K mg base G10:=gF z (g9 z) 9 z.2.2.v8
theorem MG:ZOk P w K mg base Z10:=zF z (g9 z) (zz0 z) 9 z.2.2.v8
theorem g11:GbOk P w K mg base G11:=gF z (g10 z) 10 z.2.2.v9
theorem MH:ZOk P w K mg base Z11:=zF z (g10 z) (MG z) 10 z.2.2.v9
theorem g12:GbOk P w K mg base G12:=gF z (g11 z) 11 z.2.2.v10
theorem MI:ZOk P w K mg base Z12:=zF z (g11 z) (MH z) 11 z.2.2.v10
theorem g13:GbOk P w K mg base G13:=gF z (g12 z) 12 z.2.2.v11
theorem g14:GbOk P w K mg base G14:=gF z (g13 z) 13 z.2.2.v12
theorem g15:GbOk P w K mg base G15:=gF z (g14 z) 14 z.2.2.v13
theorem g16:GbOk P w K mg base G16:=gF z (g15 z) 15 z.2.2.v14
theorem g17:GbOk P w K mg base G17:=gF z (g16 z) 16 z.2.2.v15
theorem g18:GbOk P w K mg base G18:=gF z (g17 z) 17 z.2.2.v16
theorem g19:GbOk P w K mg base G19:=gF z (g18 z) 18 z.2.2.v17
theorem g20:GbOk P w K mg base G20:=gF z (g19 z) 19 z.2.2.v18
theorem MJ:ZOk P w K mg base Z20:=zF z (g19 z) (MI z) 19 z.2.2.v18
theorem g21:GbOk P w K mg base G21:=gF z (g20 z) 20 z.2.2.v19
theorem g22:GbOk P w K mg base G22:=gF z (g21 z) 21 z.2.2.v20
theorem g23:GbOk P w K mg base G23:=gF z (g22 z) 22 z.2.2.v21
theorem g24:GbOk P w K mg base G24:=gF z (g23 z) 23 z.2.2.v22
theorem g25:GbOk P w K mg base G25:=gF z (g24 z) 24 z.2.2.v23
theorem g26:GbOk P w K mg base G26:=gF z (g25 z) 25 z.2.2.v24
theorem g27:GbOk P w K mg base G27:=gF z (g26 z) 26 z.2.2.v25
theorem g28:GbOk P w K mg base G28:=gF z (g27 z) 27 z.2.2.v26
theorem g29:GbOk P w K mg base G29:=gF z (g28 z) 28 z.2.2.v27
theorem MK:ZOk P w K mg base Z29:=zF z (g28 z) (MJ z) 28 z.2.2.v27
theorem g30:GbOk P w K mg base G30:=gF z (g29 z) 29 z.2.2.v28
theorem ML:ZOk P w K mg base Z30:=zF z (g29 z) (MK z) 29 z.2.2.v28
theorem g31:GbOk P w K mg base G31:=gF z (g30 z) 30 z.2.2.v29
theorem MM:ZOk P w K mg base Z31:=zF z (g30 z) (ML z) 30 z.2.2.v29
theorem g32:GbOk P w K mg base G32:=gF z (g31 z) 31 z.2.2.v30
theorem MN:ZOk P w K mg base Z32:=zF z (g31 z) (MM z) 31 z.2.2.v30
theorem g33:GbOk P w K mg base G33:=gF z (g32 z) 32 z.2.2.v31
theorem MO:ZOk P w K mg base Z33:=zF z (g32 z) (MN z) 32 z.2.2.v31
theorem g34:GbOk P w K mg base G34:=by
 have g:GbOk P w K mg base G33:=g33 z;exact g.addF (Ge g (MO z) (CH z.2.2.xs z.1 z.2.1) z.1 z.2.1 60 33 km mQ z.2.2.v32)
theorem g35:GbOk P w K mg base G35:=gF z (g34 z) 34 z.2.2.v33
theorem g36:GbOk P w K mg base G36:=gF z (g35 z) 35 z.2.2.v34
end
theorem fin {K} (X:K.In h) (hN:h.Ns mainGlobals mg) (hfa:mg "law"=some (.ref fa)) (T:Tx K):
  ∃fd:FuncData,(∀ (s:Shared) (v:Value),BindsTo s fd ⟨[v],[]⟩ [("script",v)])/\∀base:Heap,K.In base->base.Ns mainGlobals mg->FnOk P w K mg base CX0 37 fa fd ["script"] (spL K):=
 FR 60 36 X hN hfa AB C6 T.v35 (λbase KB hB=>g36 ⟨KB,hB,T⟩) Kh
end K20
open PySem PySem.W PyProof.Rows
set_option maxRecDepth 100000 in
set_option maxHeartbeats 0 in
theorem PySem.Challenge.cw_pocketmill_k41_counting_refused_holds : PySem.Challenge.rw_pocketmill_k41_counting_refused.Holds := by
  refine holds_law (by kernel_rfl) fun said=>?_
  refine holds_open (q:=K20.Q) (loose:=[]) (Xt:=K20.XT) (XP:=XL K20.Q []) (Yf:=Hook.obs (kHook K20.KK K20.adr K20.adr_ok)) (Ya:=Hook.val (kHook K20.KK K20.adr K20.adr_ok)) (YP:=Hook.says (kHook K20.KK K20.adr K20.adr_ok)) (N:=K20.NN) K20.t_left (Hook.of _) (Hook.keeps _) (fun s e=>xl_of s (Bool.and_eq_true_iff.mp e).1) XL.keeps (by rfl) (by rfl) (by rfl) (fun s e=>recFacts_of (Bool.and_eq_true_iff.mp e).2) (by rfl) (by first | assumption | decide +kernel) (by decide +kernel) ⟨rfl,rfl,rfl,rfl,rfl,by decide +kernel⟩ ?hw ?hc
  case hw=>w_witness2
  case hc =>
  refine L2.walkL (l:=PySem.Challenge.rw_pocketmill_k41_counting_refused) (k:=37) rfl rfl ⟨rfl,by decide,by decide⟩ (fun w h ρ=>PySem.W.kIn_of ρ) ?F
  case F =>
  intro w mg fa h KX G hmg
  exact K20.fin KX G hmg (K20.tx w.params)
#print axioms PySem.Challenge.cw_pocketmill_k41_counting_refused_holds
