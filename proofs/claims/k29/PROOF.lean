import PyProof.Rows.All
import Wide.All
import OpenK.AllK
import Wide.FinOn
import Lean
import PyProof.EqAt
import PyProof.EqKinds
import PyProof.TupleCall
import PySem.Challenge.RW_pocketmill_k29_codes_needed
set_option Elab.async false
set_option linter.all false
set_option maxRecDepth 100000
open List (length_map set_cons_succ set_cons_zero size_toArray getElem?_map getElem?_eq_getElem mem_cons_self mem_cons_of_mem mem_append_right length_append mem_of_getElem? length_range getElem?_append_left mem_singleton length_cons mem_append getElem?_append_right mem_cons mem_append_left)
open Option (map_some)
open PySem.W (nsIn findIn Frag)
open Bool (and_eq_true)
open Nat (lt_of_lt_of_le le_refl lt_of_le_of_lt)
namespace L2
open PySem
def lamTabs:List (Addr×(Pos×Str)):=[(198,(⟨97,31,97,74⟩,"as_they_come.<locals>.<lambda>"))]
end L2
set_option maxHeartbeats 4000000
noncomputable section
namespace L2
open PySem PySem.Spec PyProof.Rows
abbrev Key:=Sum Int Str
def keyIs:Key->Value->Bool
 |.inl k,v=>Value.isInt k v
 |.inr x,v=>Value.isStrOf x v
def J6 (w:World):Key->Int
 |.inl k=>hashInt k
 |.inr x=>hashStr w x
theorem keyIs_shape:∀ {k:Key} {v:Value},keyIs k v=true->(∃i t,k=Sum.inl i/\v=Value.int i t)\/(∃x t,k=Sum.inr x/\v=Value.str x t)
 |.inl i,v,h=>by
  obtain⟨t,e⟩:=Value.isInt_shape (k:=i) (v:=v) h;exact .inl ⟨i,t,rfl,e⟩
 |.inr x,v,h=>by
  obtain⟨t,e⟩:=Value.isStrOf_shape (x:=x) (v:=v) h;exact .inr ⟨x,t,rfl,e⟩
theorem vL (i:Int) (t:Tok):keyIs (.inl i) (.int i t)=true:=by simp[keyIs,Value.isInt]
theorem vM (x:Str) (t:Tok):keyIs (.inr x) (.str x t)=true:=by simp[keyIs,Value.isStrOf]
theorem DD (a b:Int):decide ((Sum.inl a:Key)=Sum.inl b)=(a==b):=by
 by_cases e:a=b
 ·subst e;simp
 ·have h:¬ (Sum.inl a:Key)=Sum.inl b:=λq=>e (Sum.inl.inj q);rw[decide_eq_false h];exact(beq_eq_false_iff_ne.mpr e).symm
theorem DE (a b:Str):decide ((Sum.inr a:Key)=Sum.inr b)=decide (a=b):=by
 by_cases e:a=b
 ·subst e;simp
 ·have h:¬ (Sum.inr a:Key)=Sum.inr b:=λq=>e (Sum.inr.inj q);rw[decide_eq_false h,decide_eq_false e]
theorem DF (a:Int) (b:Str):decide ((Sum.inl a:Key)=Sum.inr b)=false:=decide_eq_false (λq=>nomatch q)
theorem DG (a:Str) (b:Int):decide ((Sum.inr a:Key)=Sum.inl b)=false:=decide_eq_false (λq=>nomatch q)
def bY (prog:Program) (w:World):PySem.KeyKind prog w Key where
 is:=keyIs
 hash:=J6 w
 inj:=λv a b ha hb=>by
  rcases keyIs_shape ha with⟨i,t,rfl,rfl⟩|⟨x,t,rfl,rfl⟩
  ·rcases keyIs_shape hb with⟨j,u,rfl,e⟩|⟨y,u,rfl,e⟩
   ·injection e with e1 _;rw[e1]
   ·exact nomatch e
  ·rcases keyIs_shape hb with⟨j,u,rfl,e⟩|⟨y,u,rfl,e⟩
   ·exact nomatch e
   ·injection e with e1 _;rw[e1]
 byValue:=λk v h=>by
  rcases keyIs_shape h with⟨i,t,rfl,rfl⟩|⟨x,t,rfl,rfl⟩<;>rfl
 pyHash:=λhv h=>by
  rcases keyIs_shape hv with⟨i,t,rfl,rfl⟩|⟨x,t,rfl,rfl⟩
  ·exact wpAny_pyHash_int h
  ·exact wpAny_pyHash_str h
 eqBool:=λhu hv h=>by
  rcases keyIs_shape hu with⟨i,t,rfl,rfl⟩|⟨x,t,rfl,rfl⟩
  ·rcases keyIs_shape hv with⟨j,u,rfl,rfl⟩|⟨y,u,rfl,rfl⟩
   ·rw[DD]at h;exact wpAny_eqBool_int h
   ·rw[DF]at h;exact SeqAt.EqAt.int_str i t y u _ _ _ _ h
  ·rcases keyIs_shape hv with⟨j,u,rfl,rfl⟩|⟨y,u,rfl,rfl⟩
   ·rw[DG]at h;exact SeqAt.EqAt.str_int x t j u _ _ _ _ h
   ·rw[DE]at h;exact wpAny_eqBool_str h
 «strs»:=λk x t v h=>by
  rcases keyIs_shape h with⟨i,u,rfl,e⟩|⟨y,u,rfl,e⟩
  ·exact nomatch e
  ·injection e with e1 _;subst e1;cases v<;>rfl
theorem qK (prog:Program) (w:World) (i:Int) (t:Tok):(bY prog w).is (.inl i) (.int i t)=true:=vL i t
theorem qL (prog:Program) (w:World) (x:Str) (t:Tok):(bY prog w).is (.inr x) (.str x t)=true:=vM x t
inductive V where
 |non|bl (b:Bool)|int (i:Int)|str (x:Str)|byt (b:Array UInt8)|flt (b:UInt64)|ref (a:Addr)|ty (n:String)
 deriving DecidableEq
def RelV:V->Value->Prop
 |.non,u=>u=Value.none
 |.bl b,u=>u=Value.bool b
 |.int i,u=>∃t,u=Value.int i t
 |.str x,u=>∃t,u=Value.str x t
 |.byt b,u=>∃t,u=Value.bytes b t
 |.flt b,u=>∃t,u=Value.float b t
 |.ref a,u=>u=Value.ref a
 |.ty n,u=>u=Value.type n
abbrev Vals:List V->List Value->Prop:=Paired RelV
theorem Vals.length (r:Vals xs us):xs.length=us.length:=Paired.length r
theorem Vals.get:∀ {xs:List V} {us:List Value} {i:Nat} {x:V},Vals xs us->xs[i]?=some x->∃u,us[i]?=some u/\RelV x u
 |_,_,_,_,.nil,e=>by simp at e
 |_,_,0,_,.cons r _,e=>by simp at e;subst e;exact⟨_,rfl,r⟩
 |_,_,i+1,x,.cons _ t,e=>by
  obtain⟨u,h1,h2⟩:=Vals.get (i:=i) (x:=x) t (by simpa using e);exact⟨u,by simpa using h1,h2⟩
theorem Vals.set (r:RelV x u):∀ {xs:List V} {us:List Value} (i:Nat),Vals xs us->Vals (xs.set i x) (us.set i u)
 |_,_,_,.nil=>.nil
 |_,_,0,.cons _ t=>.cons r t
 |_,_,i+1,.cons q t=>.cons q (Vals.set r i t)
theorem Vals.append:∀ {xs ys:List V} {us ws:List Value},Vals xs us->Vals ys ws->Vals (xs++ys) (us++ws)
 |_,_,_,_,.nil,s=>s
 |_,_,_,_,.cons r t,s=>.cons r (Vals.append t s)
def RelO:Option V->Option Value->Prop
 |some v,some u=>RelV v u
 |none,none=>True
 |_,_=>False
def KV {κ:Type}:List (κ×V)->List (κ×Value)->Prop:=Paired λ(p:κ×V) (q:κ×Value)=>p.1=q.1/\RelV p.2 q.2
def kV:Key->V
 |.inl i=>.int i
 |.inr x=>.str x
inductive HO where
 |lst (xs:List V)
 |tup (xs:List V)
 |dK (kvs:List (Key×V))|dT (kvs:List (List Key×V))
 |set (S:Int->Bool) (n:Nat)
 |ins (C dx:Addr) (fs:List (Str×V))
 |own (x:Addr)
 |xd (fs:List (Str×V))
 |met (f x:Addr)
 |rng (lo hi:Int)
 |frz (o:Obj) (u:HO)
 |tbl (ps:Array Value)
 |cod (ps:Array Value) (pos:Pos) (q:Str)
 |ext (φ:Heap->Prop)
abbrev Hp:=Addr->Option HO
def upd (H:Hp) (a:Addr) (o:HO):Hp:=λb=>if b=a then some o else H b
theorem upd_same:upd H a o a=some o:=by unfold upd;rw[if_pos rfl]
theorem ag (h:b≠a):upd H a o b=H b:=by unfold upd;rw[if_neg h]
theorem AE:upd (upd H a o) a u=upd H a u:=by
 funext b;unfold upd;split<;>rfl
theorem ak {H:Hp} (h:H a=some o) (h':H b=none):a≠b:=by
 intro e;subst e;rw[h]at h';cases h'
section
variable (P:Program) (w:World)
def ObjOk (H:Hp) (h:Heap) (a:Addr):HO->Prop
 |.lst xs=>xs.length<=sizeLine/\∃ (its:List Value) (n:Nat),Vals xs its/\h.get? a=some {cls:=.type "list",data:=.seq its.toArray n}
 |.tup xs=>xs.length<=sizeLine/\∃its:List Value,Vals xs its/\IsTup h a its.toArray
 |.dK kvs=>kvs.length<=sizeLine/\(a==sysModules)=false/\∃vs,KV kvs vs/\h.DictOf (bY P w) a vs
 |.dT kvs=>kvs.length<=sizeLine/\(a==sysModules)=false/\∃xs:List (List Key×Addr×Value),
  Paired (λ(p:List Key×V) (q:List Key×Addr×Value)=>p.1=q.1/\H q.2.1=some (.tup (p.1.map kV))/\RelV p.2 q.2.2) kvs xs/\
  ∃o es ep,h.get? a=some o/\o.ExactDict/\o.data=.dict es ep/\es.toList=xs.map (entryOfKey (tupleKind (bY P w)))/\(xs.map (·.1)).Nodup
 |.set S n=>h.SetOf (intKind P w) a S n
 |.ins C dx fs=>H dx=some (.own a)/\fs.length<=1000/\dx≠a/\h.get? a=some (PySem.W.instObj C dx)/\
  ∃mA,h.Ns1 dx mA/\(∀f,RelO (fs.lookup f) (mA f))/\PySem.Within mA (fs.map (·.1))
 |.own _=>∃o,h.get? a=some o
 |.xd fs=>∃mA,h.Ns1 a mA/\∀f,RelO (fs.lookup f) (mA f)
 |.rng lo hi=>∃t u v,h.get? a=some {cls:=.type "range",data:=.fields #[.int lo t,.int hi u,.int 1 v]}
 |.frz o u=>h.get? a=some o/\ObjOk H h a u
 |.tbl ps=>h.get? a=some {cls:=.none,data:=.fields ps}
 |.cod ps pos q=>h.get? a=some {cls:=.none,data:=.fields ps}\/∃c oc vs t,h.get? a=some {cls:=.none,data:=.fields (ps++#[rawInt pos.line,rawInt pos.col,.ref c])}/\H c=some (.frz oc (.own a))/\oc.data=.fields vs/\vs[1]?=some (.str q t)
 |.met f x=>h.get? a=some (PySem.W.methodObj (.ref f) (.ref x))
 |.ext φ=>φ h/\(∃o,h.get? a=some o)/\∀h1 h2:Heap,φ h1->(∀o,h1.get? a=some o->h2.get? a=some o)->φ h2
def HOk (H:Hp) (h:Heap):Prop:=∀a o,H a=some o->ObjOk P w H h a o
end
section
variable {P:Program} {w:World} {H H':Hp} {h h':Heap} {a:Addr} {o:HO}
theorem ObjOk.lt (x:ObjOk P w H h a o):a<h.objs.size:=by
 cases o with
 |lst xs=>obtain⟨_,_,_,_,e⟩:=x;exact Heap.lt_size e
 |tup xs=>obtain⟨_,_,_,p⟩:=x;exact p.lt
 |dK kvs=>obtain⟨_,_,_,_,o,_,_,e,_⟩:=x;exact Heap.lt_size e
 |dT kvs=>obtain⟨_,_,_,_,o,_,_,e,_⟩:=x;exact Heap.lt_size e
 |set S n=>obtain⟨o,_,_,_,e,_⟩:=x;exact Heap.lt_size e
 |ins C dx fs=>obtain⟨_,_,_,e,_⟩:=x;exact Heap.lt_size e
 |own y=>obtain⟨_,e⟩:=x;exact Heap.lt_size e
 |xd fs=>obtain⟨_,⟨_,_,_,e,_⟩,_⟩:=x;exact Heap.lt_size e
 |rng lo hi=>obtain⟨_,_,_,e⟩:=x;exact Heap.lt_size e
 |frz ob u=>obtain⟨e,_⟩:=x;exact Heap.lt_size e
 |tbl ps=>exact Heap.lt_size (show h.get? a=some _ from x)
 |cod ps pos q=>
  rcases x with e|⟨_,_,_,_,e,_⟩
  ·exact Heap.lt_size e
  ·exact Heap.lt_size e
 |met f y=>exact Heap.lt_size (show h.get? a=some _ from x)
 |ext φ=>obtain⟨_,⟨_,e⟩,_⟩:=x;exact Heap.lt_size e
theorem Paired.mapP:∀ {l₁:List α} {l₂:List β},Paired F l₁ l₂->(∀a b,F a b->G a b)->Paired G l₁ l₂
 |_,_,.nil,_=>.nil
 |_,_,.cons r t,f=>.cons (f _ _ r) (Paired.mapP t f)
theorem ObjOk.stay (x:ObjOk P w H h a o) (k:∀b u,(b=a\/H b=some (.own a))->h.get? b=some u->h'.get? b=some u)
  (ho:∀b,H b=some (.own a)->H' b=some (.own a)) (ht:∀b xs,H b=some (.tup xs)->H' b=some (.tup xs)) (hz:∀b o' y,H b=some (.frz o' (.own y))->H' b=some (.frz o' (.own y)):=by intro _ _ _ q;exact q):ObjOk P w H' h' a o:=by
 induction o with
 |lst xs=>obtain⟨z,its,n,r,e⟩:=x;exact⟨z,its,n,r,k _ _ (.inl rfl) e⟩
 |tup xs=>obtain⟨z,its,r,ob,e,c⟩:=x;exact⟨z,its,r,ob,k _ _ (.inl rfl) e,c⟩
 |dK kvs=>obtain⟨z,y,vs,r,ob,es,ep,e,c⟩:=x;exact⟨z,y,vs,r,ob,es,ep,k _ _ (.inl rfl) e,c⟩
 |dT kvs=>
  obtain⟨z,y,xs,r,ob,es,ep,e,c⟩:=x;exact⟨z,y,xs,Paired.mapP r λp q z=>⟨z.1,ht _ _ z.2.1,z.2.2⟩,ob,es,ep,k _ _ (.inl rfl) e,c⟩
 |set S n=>obtain⟨ob,es,ep,t,e,c⟩:=x;exact⟨ob,es,ep,t,k _ _ (.inl rfl) e,c⟩
 |ins C dx fs=>
  obtain⟨d,z,ne,e,mA,⟨od,es,ep,e2,c⟩,r⟩:=x;exact⟨ho _ d,z,ne,k _ _ (.inl rfl) e,mA,⟨od,es,ep,k _ _ (.inr d) e2,c⟩,r⟩
 |own y=>obtain⟨ob,e⟩:=x;exact⟨ob,k _ _ (.inl rfl) e⟩
 |xd fs=>obtain⟨mA,⟨od,es,ep,e,c⟩,r⟩:=x;exact⟨mA,⟨od,es,ep,k _ _ (.inl rfl) e,c⟩,r⟩
 |rng lo hi=>obtain⟨t,u,v,e⟩:=x;exact⟨t,u,v,k _ _ (.inl rfl) e⟩
 |frz ob u ih=>obtain⟨e,q⟩:=x;exact⟨k _ _ (.inl rfl) e,ih q⟩
 |cod ps pos q=>
  rcases x with e|⟨c,oc,vs,t,e,o1,r⟩
  ·exact .inl (k a _ (.inl rfl) e)
  ·exact .inr ⟨c,oc,vs,t,k a _ (.inl rfl) e,hz _ _ _ o1,r⟩
 |tbl ps=>
  have e:h.get? a=some {cls:=.none,data:=.fields ps}:=x;show h'.get? a=some {cls:=.none,data:=.fields ps};exact k a _ (.inl rfl) e
 |met f y=>
  have e:h.get? a=some (PySem.W.methodObj (.ref f) (.ref y)):=x;show h'.get? a=some (PySem.W.methodObj (.ref f) (.ref y));exact k a _ (.inl rfl) e
 |ext φ=>obtain⟨p,⟨o,e⟩,st⟩:=x;exact⟨st _ _ p λo q=>k _ _ (.inl rfl) q,⟨o,k _ _ (.inl rfl) e⟩,st⟩
theorem HOk.lt (x:HOk P w H h) (e:H a=some o):a<h.objs.size:=(x a o e).lt
theorem HOk.fresh (x:HOk P w H h) (e:h.objs.size<=a):H a=none:=by
 cases q:H a with
 |none=>rfl
 |some u=>exact absurd (lt_of_lt_of_le (x.lt q) e) (Nat.lt_irrefl _)
theorem HOk.kept (x:HOk P w H h) (k:∀b u,h.get? b=some u->h'.get? b=some u):HOk P w H h':=λa o e=>
 (x a o e).stay (λb u _ q=>k b u q) (λ_ q=>q) λ_ _ q=>q
theorem HOk.laid (x:HOk P w H h) (k:∀b u,h.get? b=some u->h'.get? b=some u) (hp:h.objs.size<=a) (new:ObjOk P w (upd H a o) h' a o):HOk P w (upd H a o) h':=λb u e=>by
 have hn:=x.fresh hp;by_cases hb:b=a
 ·subst hb;rw[upd_same]at e;cases e;exact new
 ·rw[ag hb]at e;exact(x b u e).stay (λc v _ q=>k c v q) (λc q=>by rw[ag (ak q hn)];exact q) (λc xs q=>by rw[ag (ak q hn)];exact q) λc o' u' q=>by rw[ag (ak q hn)];exact q
end
def Rd (H:Hp) (a:Addr) (u:HO):Prop:=H a=some u\/∃o,H a=some (.frz o u)
theorem Rd.ok (r:Rd H a u) (x:HOk P w H h):ObjOk P w H h a u:=by
 rcases r with r|⟨o,r⟩
 ·exact x a u r
 ·obtain⟨_,q⟩:=x a _ r;exact q
def Mut:Option HO->Prop
 |some (.lst _)=>True
 |some (.dK _)=>True
 |some (.dT _)=>True
 |some (.set _ _)=>True
 |some (.ins _ _ _)=>True
 |some (.ext _)=>True
 |_=>False
section
variable {P:Program} {w:World} {H:Hp} {h h':Heap} {x e:Addr} {o':HO}
theorem HOk.write (ok:HOk P w H h) (mu:Mut (H x)) (he:e=x\/H e=some (.own x)) (k:∀b u,b≠e->h.get? b=some u->h'.get? b=some u) (heo:∃u,h'.get? e=some u)
  (new:ObjOk P w (upd H x o') h' x o'):HOk P w (upd H x o') h':=λb u q=>by
 have nown:∀c y,H c=some (.own y)->c≠x:=λc y r z=>by subst z;rw[r]at mu;exact mu
 have ntup:∀c xs,H c=some (.tup xs)->c≠x:=λc xs r z=>by subst z;rw[r]at mu;exact mu
 by_cases hb:b=x
 ·subst hb;rw[upd_same]at q;cases q;exact new
 ·rw[ag hb]at q;by_cases hbe:b=e
  ·have q':H b=some (.own x):=by
    rcases he with z|z
    ·exact absurd (hbe.trans z) hb
    ·rw[hbe];exact z
   rw[q]at q';cases q';obtain⟨v,hv⟩:=heo;exact⟨v,by rw[hbe];exact hv⟩
  ·refine(ok b u q).stay (λc v hc r=>k c v ?_ r) (λc r=>by rw[ag (nown c b r)];exact r) (λc xs r=>by rw[ag (ntup c xs r)];exact r) λc o' u' r=>by rw[ag (λz=>by subst z;rw[r]at mu;exact mu)];exact r
   rcases hc with rfl|hc
   ·exact hbe
   ·rintro rfl;rcases he with z|z
    ·exact nown c b hc z
    ·rw[hc]at z;cases z;exact hb rfl
end
def Still:HO->Prop
 |.frz _ _=>True
 |.cod _ _ _=>True
 |_=>False
theorem Still.nm (h:Still u):¬Mut (some u):=by
 cases u<;>first|exact h.elim|exactλz=>z
def GT (H:Hp):Prop:=∀b z,lamTabs.lookup b=some z->H b=some (.cod #[] z.1 z.2)
structure Un (fs ex:List Addr) (H H':Hp) (h h':Heap):Prop where
 keep:∀b o,h.get? b=some o->H b=none->b ∉ fs->b ∉ ex->h'.get? b=some o
 slot:∀b o,h.get? b=some o->H b=none->b∈fs->b ∉ ex->∃sl,h'.get? b=some {o with slots:=sl}
 free:∀b o,h.get? b=some o->H b=none->b ∉ ex->H' b=none
 there:∀b o,h.get? b=some o->b ∉ ex->∃o',h'.get? b=some o'
 tups:∀b xs,H b=some (.tup xs)->H' b=some (.tup xs)
 frzs:∀b o,Still o->H b=some o->H' b=some o
 tbls:∀b ps,H b=some (.tbl ps)->∃more,H' b=some (.tbl (ps++more))
section
variable {fs fs' ex ex':List Addr} {H H1 H2:Hp} {h h1 h2 h':Heap} {a x e:Addr} {o:HO}
theorem Un.any (u:Un fs ex H H1 h h1) (q:h.get? b=some ob) (n:H b=none) (hx:b ∉ ex):∃sl,h1.get? b=some {ob with slots:=sl}:=by
 by_cases hb:b∈fs
 ·exact u.slot b ob q n hb hx
 ·exact⟨ob.slots,u.keep b ob q n hb hx⟩
theorem Un.kept (k:∀b u,h.get? b=some u->h'.get? b=some u):Un fs ex H H h h':=
 ⟨λb ob q _ _ _=>k b ob q,λb ob q _ _ _=>⟨ob.slots,k b ob q⟩,λ_ _ _ n _=>n,λb ob q _=>⟨ob,k b ob q⟩,λ_ _ q=>q,λ_ _ _ q=>q,λ_ ps q=>⟨#[],by rw[q];simp⟩⟩
theorem Un.refl:Un fs ex H H h h:=Un.kept λ_ _ q=>q
theorem Un.laid (k:∀b u,h.get? b=some u->h'.get? b=some u) (hp:h.objs.size<=a) (hn:H a=none):Un fs ex H (upd H a o) h h' where
 keep:=λb u q _ _ _=>k b u q
 slot:=λb u q _ _ _=>⟨u.slots,k b u q⟩
 free:=λb u q n _=>by rw[ag (Nat.ne_of_lt (lt_of_lt_of_le (Heap.lt_size q) hp))];exact n
 there:=λb u q _=>⟨u,k b u q⟩
 tups:=λb xs q=>by rw[ag (ak q hn)];exact q
 frzs:=λb u xs q=>by rw[ag (ak q hn)];exact q
 tbls:=λb ps q=>⟨#[],by rw[ag (ak q hn),q];simp⟩
theorem Un.write (mu:Mut (H x)) (he:e=x\/H e=some (.own x)) (k:∀b u,b≠e->h.get? b=some u->h'.get? b=some u) (heo:∃u,h'.get? e=some u):Un fs ex H (upd H x o) h h':=by
 have hx:∀b,H b=none->b≠x:=λb n z=>by subst z;rw[n]at mu;exact mu
 have hb:∀b,H b=none->b≠e:=λb n z=>by
  subst z;rcases he with r|r
  ·exact hx b n r
  ·rw[n]at r;cases r
 have hm:∀b u,H b=some u->¬Mut (some u)->b≠x:=λb u q nm z=>by subst z;rw[q]at mu;exact nm mu
 refine⟨λb u q n _ _=>k b u (hb b n) q,λb u q n _ _=>⟨u.slots,k b u (hb b n) q⟩,λb u q n _=>by rw[ag (hx b n)];exact n,λb u q _=>?_,
  λb xs q=>by rw[ag (hm b _ q λz=>z)];exact q,λb u xs q=>by rw[ag (hm b _ q xs.nm)];exact q,λb ps q=>⟨#[],by rw[ag (hm b _ q λz=>z),q];simp⟩⟩
 by_cases hbe:b=e
 ·subst hbe;exact heo
 ·exact⟨u,k b u hbe q⟩
end
def trk (h:Heap) (H:Hp):List Addr:=(List.range h.objs.size).filter λa=>(H a).isSome
def pF (h:Heap) (H:Hp):Heap:=PySem.W.hideAll h (trk h H)
theorem vN (h:Heap) (H:Hp):(pF h H).objs.size=h.objs.size:=PySem.W.hideAll_size _ _
theorem wI (e:h.get? b=some o) (n:H b=none):(pF h H).get? b=some o:=
 PySem.W.hideAll_get _ e λhm=>by
  have q:(H b).isSome=true:=(List.mem_filter.mp hm).2;rw[n]at q;simp at q
theorem AF (e:(pF h H).get? b=some o):h.get? b=some o/\H b=none:=by
 have e':h.get? b=some o:=PySem.W.of_hideAll (trk h H) e;refine⟨e',?_⟩;cases q:H b with
 |none=>rfl
 |some x=>
  have hm:b∈trk h H:=List.mem_filter.mpr ⟨List.mem_range.mpr (Heap.lt_size e'),by simp[q]⟩;have z:(pF h H).get? b=none:=PySem.W.hideAll_none (trk h H) hm;rw[z]at e;cases e
def AG (g h:Heap) (L:Addr):List (Addr×Obj):=(List.range h.objs.size).filterMap λa=>if a=L\/(g.get? a).isSome=true then none else(h.get? a).map λo=>(a,o)
def rest (g h:Heap) (L d:Addr):List (Addr×Obj):=(AG g h L).filter λp=>decide (p.1≠d)
structure Mod (K:Frag) (mg:Str->Option Value) (base:Heap):Prop where
 kin:K.In base
 glob:base.Ns mainGlobals mg
 blt:∃mb,base.Ns builtinsNs mb/\∀x:Str,x≠"__name__" ->mb x=bootBuiltins x
 nolimit:base.NoLimit
structure Cx where
 prog:Program
 w:World
 K:Frag
 mg:Str->Option Value
 base:Heap
 A:Around
 N:List Str
 s₀:Shared
 H₀:Hp
 env:Env
 outer:List Env
 stack:List Env
 ex:List Addr
 fn:Str->Bool
 calm:Bool
 pn:List (Addr×Obj)
 xe:Value->Shared->Prop
def frs (l:List Env):List Addr:=l.filterMap (·.frame)
abbrev Cx.fs (X:Cx):List Addr:=frs X.outer
def Vis (sc:Scope) (x:Str):Prop:=sc.names.lookup x=some .local\/sc.names.lookup x=some .cell\/sc.names.lookup x=some .free
def Loc (sc:Scope) (x:Str):Prop:=sc.names.lookup x=some .local\/sc.names.lookup x=some .cell
def J7 (env:Env) (h:Heap) (m:Str->Option Value) (x:Str) (u:Value):Prop:=
 (env.kindOf x=some .local/\m x=some u)\/((env.kindOf x=some .cell\/env.kindOf x=some .free)/\∃c,env.cells.lookup x=some c/\h.IsCell c (some u))
structure Cx.Ok (X:Cx):Prop where
 mod:Mod X.K X.mg X.base
 kind:X.env.scope.kind=.function
 glob:X.env.globals=mainGlobals
 blt:X.env.builtins=builtinsNs
 above:X.s₀.heap.objs.size<=X.env.locals
 inj:∀x y c,X.env.cells.lookup x=some c->X.env.cells.lookup y=some c->x=y
 has:∀x,(X.env.kindOf x=some .cell\/X.env.kindOf x=some .free)->∃c,X.env.cells.lookup x=some c
 cab:∀x c,X.fn x=true->X.env.cells.lookup x=some c->X.s₀.heap.objs.size<=c
 hd:X.calm=true->X.A.handled=none
 frames:X.A.frames=some X.stack
 stk:X.stack=X.outer\/(X.stack=X.env::X.outer/\X.env.frame=some X.env.locals)
 exf:∀b∈X.ex,b≠X.env.locals/\∀x c,X.env.cells.lookup x=some c->c≠b
 bs:∀b o,X.base.get? b=some o->X.s₀.heap.get? b=some o/\X.H₀ b=none
 bsz:X.base.objs.size<=X.s₀.heap.objs.size
 noex:∀b o,X.base.get? b=some o->b ∉ X.ex
 exfs:∀b∈X.ex,b ∉ X.fs
 funs:X.s₀.heap.FunFrames X.base X.outer
 frf:(∀b∈X.fs,X.H₀ b=none)/\GT X.H₀
structure Inv (X:Cx) (pins:List (Addr×Obj)) (Y:List (Option V)) (H:Hp) (s:Shared):Prop where
 ok:X.Ok
 os:s.os=X.s₀.os
 bare:AllBare s.gens
 base:Un X.fs X.ex X.H₀ H X.s₀.heap s.heap
 loc:∃m,s.heap.Ns X.env.locals m/\∀ (i:Nat) (x:Str) (v:V),X.N[i]?=some x->Y[i]?=some (some v)->Vis X.env.scope x->∃u,RelV v u/\J7 X.env s.heap m x u
 cell:∀x c,X.env.cells.lookup x=some c->∃v,s.heap.IsCell c v
 free:H X.env.locals=none
 freeC:∀x c,X.env.cells.lookup x=some c->H c=none
 pin:∀p∈X.pn++pins,s.heap.get? p.1=some p.2/\H p.1=none/\p.1≠X.env.locals/\p.1 ∉ X.fs/\∀v,p.2.data≠.cell v
 hok:HOk X.prog X.w H s.heap
 len:Y.length=X.N.length
section
variable {X:Cx} {pins:List (Addr×Obj)} {Y:List (Option V)} {H H':Hp} {s:Shared} {h':Heap}
theorem Cx.Ok.nofr (ok:X.Ok) (e:X.base.get? b=some o):b ∉ X.fs:=λhb=>by
 have:=(ok.funs.mem hb).1;rw[e]at this;cases this
theorem Inv.bs (I:Inv X pins Y H s):∀b o,X.base.get? b=some o->s.heap.get? b=some o/\H b=none:=λb o e=>
 ⟨I.base.keep b o (I.ok.bs b o e).1 (I.ok.bs b o e).2 (I.ok.nofr e) (I.ok.noex b o e),I.base.free b o (I.ok.bs b o e).1 (I.ok.bs b o e).2 (I.ok.noex b o e)⟩
theorem Inv.bk (I:Inv X pins Y H s):∀b o,X.base.get? b=some o->s.heap.get? b=some o:=λb o e=>(I.bs b o e).1
theorem Inv.mod (I:Inv X pins Y H s):Mod X.K X.mg X.base:=I.ok.mod
theorem Inv.kIn (I:Inv X pins Y H s):X.K.In s.heap:=I.ok.mod.kin.keeps I.bk
theorem Inv.nolimit (I:Inv X pins Y H s):s.heap.NoLimit:=I.ok.mod.nolimit.keeps I.bk
theorem Inv.lt (I:Inv X pins Y H s):X.env.locals<s.heap.objs.size:=let⟨_,hn,_⟩:=I.loc;hn.lt
theorem Inv.sz (I:Inv X pins Y H s):X.s₀.heap.objs.size<=s.heap.objs.size:=Nat.le_trans I.ok.above (Nat.le_of_lt I.lt)
theorem Inv.nofs (I:Inv X pins Y H s) {a:Addr} (h:s.heap.objs.size<=a):a ∉ X.fs:=λhb=>by
 obtain⟨_,o,ho,_⟩:=I.ok.funs.mem hb;exact absurd (lt_of_lt_of_le (Heap.lt_size ho) (Nat.le_trans I.sz h)) (Nat.lt_irrefl _)
theorem Inv.cne (I:Inv X pins Y H s):∀x c,X.env.cells.lookup x=some c->c≠X.env.locals:=λx c e z=>by
 obtain⟨v,o,ho,hd⟩:=I.cell x c e;obtain⟨m,⟨o',es,ep,ho',hd',_⟩,_⟩:=I.loc;rw[z,ho']at ho;cases ho;rw[hd']at hd;cases hd
theorem Inv.funs (I:Inv X pins Y H s):s.heap.FunFrames X.base X.outer:=by
 have all:∀ (l:List Env),(∀b∈frs l,b∈X.fs)->X.s₀.heap.FunFrames X.base l->s.heap.FunFrames X.base l:=by
  intro l;induction l with
  |nil=>intro _ _;trivial
  |cons env r ih=>
   intro hs hl;obtain⟨hk,⟨L,o,hf,hn,ho,hd⟩,hr⟩:=hl;have hL:L∈X.fs:=hs L (by unfold frs;rw[List.filterMap_cons,hf];exact mem_cons_self);obtain⟨sl,e⟩:=I.base.slot L o ho (I.ok.frf.1 L hL) hL λz=>I.ok.exfs L z hL;exact⟨hk,⟨L,_,hf,hn,e,hd⟩,ih (λb hb=>hs b (by unfold frs;rw[List.filterMap_cons,hf];exact mem_cons_of_mem _ hb)) hr⟩
 exact all X.outer (λ_ hb=>hb) I.ok.funs
theorem Inv.stack (I:Inv X pins Y H s):s.heap.FunFrames X.base X.stack:=by
 rcases I.ok.stk with e|⟨e,hf⟩
 ·rw[e];exact I.funs
 ·rw[e];obtain⟨m,hn,_⟩:=I.loc;refine .cons (by rw[I.ok.kind];decide) hf hn ?_ I.funs;exact Heap.get?_none_of_le (Nat.le_trans I.ok.bsz I.ok.above)
theorem Inv.stkSub (I:Inv X pins Y H s):∀b∈frs X.stack,b∈X.env.locals::X.fs:=λb hb=>by
 rcases I.ok.stk with e|⟨e,hf⟩
 ·rw[e]at hb;exact mem_cons_of_mem _ hb
 ·rw[e]at hb;unfold frs at hb;rw[List.filterMap_cons,hf]at hb;exact hb
theorem Inv.stkFree (I:Inv X pins Y H s):∀b∈frs X.stack,H b=none:=λb hb=>by
 rcases mem_cons.mp (I.stkSub b hb)with e|hb
 ·rw[e];exact I.free
 ·obtain⟨_,o,ho,_⟩:=I.ok.funs.mem hb;exact I.base.free b o ho (I.ok.frf.1 b hb) λz=>I.ok.exfs b z hb
theorem Inv.tab (I:Inv X pins Y H s):GT H:=λb z h=>I.base.frzs b _ True.intro (I.ok.frf.2 b z h)
theorem Inv.step {ch:List Addr} (I:Inv X pins Y H s) (hch:∀b∈ch,(b∈X.ex\/X.s₀.heap.objs.size<=b)/\b≠X.env.locals/\(∀x c,X.env.cells.lookup x=some c->c≠b)/\∀p∈X.pn++pins,p.1≠b) (keep:∀b o,b≠X.env.locals->b ∉ X.fs->b ∉ ch->s.heap.get? b=some o->H b=none->h'.get? b=some o) (slot:∀b o,b≠X.env.locals->b∈X.fs->b ∉ ch->s.heap.get? b=some o->H b=none->∃sl,h'.get? b=some {o with slots:=sl}) (free:∀b o,b ∉ ch->s.heap.get? b=some o->H b=none->H' b=none) (there:∀b o,b ∉ ch->s.heap.get? b=some o->∃o',h'.get? b=some o') (tups:∀b xs,H b=some (.tup xs)->H' b=some (.tup xs)) (frzs:∀b o,Still o->H b=some o->H' b=some o) (tbls:∀b ps,H b=some (.tbl ps)->∃more,H' b=some (.tbl (ps++more))) (ns:∀m,s.heap.Ns X.env.locals m->h'.Ns X.env.locals m) (hok:HOk X.prog X.w H' h') (hg:AllBare g'):
  Inv X pins Y H' {s with heap:=h',gens:=g',drawn:=d',toks:=t'}:=by
 have neL:∀b o,X.s₀.heap.get? b=some o->b≠X.env.locals:=λb o e=>Nat.ne_of_lt (lt_of_lt_of_le (Heap.lt_size e) I.ok.above)
 have neC:∀b o,X.s₀.heap.get? b=some o->b ∉ X.ex->b ∉ ch:=λb o e hx hb=>by
  rcases(hch b hb).1 with z|z
  ·exact hx z
  ·exact absurd (lt_of_lt_of_le (Heap.lt_size e) z) (Nat.lt_irrefl _)
 have cellK:∀x c,X.env.cells.lookup x=some c->∀v,s.heap.IsCell c v->h'.IsCell c v:=λx c e v ⟨o,ho,hd⟩=>by
  have nch:c ∉ ch:=λz=>(hch c z).2.2.1 x c e rfl;by_cases hc:c∈X.fs
  ·obtain⟨sl,q⟩:=slot c o (I.cne x c e) hc nch ho (I.freeC x c e);exact⟨_,q,hd⟩
  ·exact⟨o,keep c o (I.cne x c e) hc nch ho (I.freeC x c e),hd⟩
 refine⟨I.ok,I.os,hg,⟨λb o e n hb hx=>?_,λb o e n hb hx=>?_,λb o e n hx=>?_,λb o e hx=>?_,λb xs e=>tups b xs (I.base.tups b xs e),λb o xs e=>frzs b o xs (I.base.frzs b o xs e),λb ps e=>?_⟩,?_,λx c e=>?_,?_,λx c e=>?_,λp hp=>?_,hok,I.len⟩
 ·exact keep b o (neL b o e) hb (neC b o e hx) (I.base.keep b o e n hb hx) (I.base.free b o e n hx)
 ·obtain⟨sl,e1⟩:=I.base.slot b o e n hb hx;obtain⟨sl',e2⟩:=slot b _ (neL b o e) hb (neC b o e hx) e1 (I.base.free b o e n hx);exact⟨sl',e2⟩
 ·obtain⟨o',e1⟩:=I.base.there b o e hx;exact free b o' (neC b o e hx) e1 (I.base.free b o e n hx)
 ·obtain⟨o',e1⟩:=I.base.there b o e hx;exact there b o' (neC b o e hx) e1
 ·obtain⟨m1,e1⟩:=I.base.tbls b ps e;obtain⟨m2,e2⟩:=tbls b _ e1;exact⟨m1++m2,by rw[e2,Array.append_assoc]⟩
 ·obtain⟨m,hn,hl⟩:=I.loc;refine⟨m,ns m hn,λi x v e1 e2 e3=>?_⟩;obtain⟨u,r,l⟩:=hl i x v e1 e2 e3;refine⟨u,r,?_⟩;rcases l with l|⟨k,c,e,z⟩
  ·exact .inl l
  ·exact .inr ⟨k,c,e,cellK x c e _ z⟩
 ·obtain⟨v,z⟩:=I.cell x c e;exact⟨v,cellK x c e v z⟩
 ·obtain⟨m,⟨o,_,_,ho,_⟩,_⟩:=I.loc;exact free _ o (λz=>(hch _ z).2.1 rfl) ho I.free
 ·obtain⟨v,o,ho,hd⟩:=I.cell x c e;exact free c o (λz=>(hch c z).2.2.1 x c e rfl) ho (I.freeC x c e)
 ·obtain⟨e,n,ne,nf,d⟩:=I.pin p hp;have nch:p.1 ∉ ch:=λz=>(hch p.1 z).2.2.2 p hp rfl;exact⟨keep p.1 p.2 ne nf nch e n,free p.1 p.2 nch e n,ne,nf,d⟩
theorem Inv.un (I:Inv X pins Y H s) (u:Un X.fs [] H H' s.heap h') (hok:HOk X.prog X.w H' h'):Inv X pins Y H' {s with heap:=h',toks:=t'}:=by
 obtain⟨m,⟨o,es,ep,ho,r⟩,_⟩:=id I.loc;obtain⟨sl,hL⟩:=u.any ho I.free (by simp);exact I.step (g':=s.gens) (d':=s.drawn) (ch:=[]) (λ_ z=>nomatch z) (λb o _ hb _ e n=>u.keep b o e n hb (by simp)) (λb o _ hb _ e n=>u.slot b o e n hb (by simp)) (λb o _ e n=>u.free b o e n (by simp)) (λb o _ e=>u.there b o e (by simp)) u.tups u.frzs u.tbls (λm' hm=>by
  obtain⟨o',es',ep',ho',r'⟩:=hm;rw[ho]at ho';cases ho';exact⟨_,es',ep',hL,r'⟩) hok I.bare
theorem Inv.call (I:Inv X pins Y H s) (u:Un (frs X.stack) ch H H' s.heap h') (hok:HOk X.prog X.w H' h') (hg:AllBare g') (hch:∀b∈ch,(b∈X.ex\/X.s₀.heap.objs.size<=b)/\b≠X.env.locals/\(∀x c,X.env.cells.lookup x=some c->c≠b)/\∀p∈X.pn++pins,p.1≠b):
  Inv X pins Y H' {s with heap:=h',gens:=g',drawn:=d',toks:=t'}:=by
 obtain⟨m,⟨o,es,ep,ho,r⟩,_⟩:=id I.loc
 obtain⟨sl,hL⟩:=u.any ho I.free λz=>(hch _ z).2.1 rfl
 exact I.step (ch:=ch) hch (λb o hL hb hc e n=>u.keep b o e n (λz=>(mem_cons.mp (I.stkSub b z)).elim hL hb) hc) (λb o _ _ hc e n=>u.any e n hc) (λb o hc e n=>u.free b o e n hc) (λb o hc e=>u.there b o e hc) u.tups u.frzs u.tbls (λm' hm=>by
  obtain⟨o',es',ep',ho',r'⟩:=hm;rw[ho]at ho';cases ho';exact⟨_,es',ep',hL,r'⟩) hok hg
theorem Inv.turned (I:Inv X pins Y H s) (k:∀b o,b≠it->s.heap.get? b=some o->h'.get? b=some o) (hn:H it=none) (hL:it≠X.env.locals) (h1:it∈X.ex\/X.s₀.heap.objs.size<=it) (h2:∀x c,X.env.cells.lookup x=some c->c≠it) (h3:∀p∈X.pn++pins,p.1≠it):Inv X pins Y H {s with heap:=h',toks:=t'}:=by
 have nit:∀b u,H b=some u->b≠it:=λb u e z=>by rw[z,hn]at e;cases e
 refine I.step (g':=s.gens) (d':=s.drawn) (ch:=[it]) (λb hb=>?_) (λb o _ _ hc e _=>k b o (λz=>hc (by simp[z])) e) (λb o _ _ hc e _=>⟨o.slots,k b o (λz=>hc (by simp[z])) e⟩) (λ_ _ _ _ n=>n)
  (λb o hc e=>⟨o,k b o (λz=>hc (by simp[z])) e⟩) (λ_ _ e=>e) (λ_ _ _ e=>e) (λb ps e=>⟨#[],by rw[e];simp⟩) (λm hm=>?_) (λb u e=>?_) I.bare
 ·have e:b=it:=by simpa using hb
  subst e;exact⟨h1,hL,h2,h3⟩
 ·obtain⟨o,es,ep,ho,r⟩:=hm;exact⟨o,es,ep,k _ o (Ne.symm hL) ho,r⟩
 ·refine(I.hok b u e).stay (λc v hc q=>k c v ?_ q) (λ_ q=>q) λ_ _ q=>q;rcases hc with z|z
  ·rw[z];exact nit b u e
  ·exact nit c _ z
theorem Inv.tok (I:Inv X pins Y H s) (t:Nat):Inv X pins Y H {s with toks:=t}:=I.un (h':=s.heap) (t':=t) Un.refl I.hok
theorem Inv.kept (I:Inv X pins Y H s) (k:∀b u,s.heap.get? b=some u->h'.get? b=some u):Inv X pins Y H {s with heap:=h',toks:=t'}:=I.un (Un.kept k) (I.hok.kept k)
theorem Inv.laid {a:Addr} (I:Inv X pins Y H s) (k:∀b u,s.heap.get? b=some u->h'.get? b=some u) (hp:s.heap.objs.size<=a) (new:ObjOk X.prog X.w (upd H a o) h' a o):
 Inv X pins Y (upd H a o) {s with heap:=h',toks:=t'}:=I.un (Un.laid k hp (I.hok.fresh hp)) (I.hok.laid k hp new)
theorem Inv.write (I:Inv X pins Y H s) (mu:Mut (H x)) (he:e=x\/H e=some (.own x)) (k:∀b u,b≠e->s.heap.get? b=some u->h'.get? b=some u) (heo:∃u,h'.get? e=some u) (new:ObjOk X.prog X.w (upd H x o) h' x o):Inv X pins Y (upd H x o) {s with heap:=h',toks:=t'}:=I.un (Un.write mu he k heo) (I.hok.write mu he k heo new)
theorem Inv.weak (I:Inv X pins Y H s) (hl:Y'.length=Y.length) (w:∀ (i:Nat) v,Y'[i]?=some (some v)->Y[i]?=some (some v)):Inv X pins Y' H s:=
 ⟨I.ok,I.os,I.bare,I.base,let⟨m,hn,hl'⟩:=I.loc;⟨m,hn,λi x v e1 e2 e3=>hl' i x v e1 (w i v e2) e3⟩,I.cell,I.free,I.freeC,I.pin,I.hok,hl.trans I.len⟩
theorem Inv.pins_of (I:Inv X pins Y H s) (h:∀p∈pins',s.heap.get? p.1=some p.2/\H p.1=none/\p.1≠X.env.locals/\p.1 ∉ X.fs/\∀v,p.2.data≠.cell v):Inv X pins' Y H s:=
 ⟨I.ok,I.os,I.bare,I.base,I.loc,I.cell,I.free,I.freeC,λp hp=>(mem_append.mp hp).elim (λz=>I.pin p (mem_append_left _ z)) (h p),I.hok,I.len⟩
theorem mr {N:List Str} (hN:N.Nodup) {i j:Nat} (a:N[i]?=some x) (b:N[j]?=some x):i=j:=by
 obtain⟨h1,e1⟩:=List.getElem?_eq_some_iff.mp a;obtain⟨h2,e2⟩:=List.getElem?_eq_some_iff.mp b;exact(List.getElem_inj hN).mp (e1.trans e2.symm)
theorem oA (I:Inv X pins Y H s) (hN:X.N.Nodup) (hi:X.N[i]?=some x) (hx:Loc X.env.scope x) (r:RelV v u) (h:∀s',Inv X pins (Y.set i (some v)) H s'->(∃a,Heap.SameBut a s.heap s'.heap/\(a=X.env.locals\/X.env.cells.lookup x=some a))->Q () s') (hf:X.fn x=true\/X.env.scope.names.lookup x=some .local:=by first|exact .inl rfl|exact .inr rfl|assumption):wpAny M A (storeName X.env x u) Q E s:=by
 obtain⟨m,hn,hl⟩:=id I.loc;have hcls:(X.env.scope.kind==.class||(X.env.scope.kind==.module&&X.env.locals !=X.env.globals))=false:=by rw[I.ok.kind];rfl
 have hiY:i<Y.length:=by rw[I.len];exact(List.getElem?_eq_some_iff.mp hi).1
 have cne:=I.cne;have tracked:∀ {a:Addr} {h':Heap},(∃o,s.heap.get? a=some o/\H a=none)->Heap.SameBut a s.heap h'->HOk X.prog X.w H h':=λ{a h'} ha hs b ob e=>by
  obtain⟨_,_,hfree⟩:=ha;refine(I.hok b ob e).stay (λc w' hc q=>(hs.2 c ?_).trans q) (λ_ q=>q) λ_ _ q=>q;rintro rfl;rcases hc with rfl|hc
  ·rw[hfree]at e;cases e
  ·rw[hfree]at hc;cases hc
 rcases hx with hk|hk
 ·refine wpAny_storeName_local hk hn (λh' hn' hs=>?_) hcls;obtain⟨oL,_,_,hoL,_⟩:=id hn;refine h _ ⟨I.ok,I.os,I.bare,⟨λb o e n hb hx=>?_,λb o e n hb hx=>?_,I.base.free,λb o e hx=>?_,I.base.tups,I.base.frzs,I.base.tbls⟩,⟨_,hn',λj y v' e1 e2 e3=>?_⟩,λy c e=>?_,I.free,I.freeC,λp hp=>?_,tracked ⟨oL,hoL,I.free⟩ hs,by simpa using I.len⟩ ⟨_,hs,.inl rfl⟩
  ·exact(hs.2 b (Nat.ne_of_lt (lt_of_lt_of_le (Heap.lt_size e) I.ok.above))).trans (I.base.keep b o e n hb hx)
  ·obtain⟨sl,e1⟩:=I.base.slot b o e n hb hx;exact⟨sl,(hs.2 b (Nat.ne_of_lt (lt_of_lt_of_le (Heap.lt_size e) I.ok.above))).trans e1⟩
  ·obtain⟨o',e1⟩:=I.base.there b o e hx;exact⟨o',(hs.2 b (Nat.ne_of_lt (lt_of_lt_of_le (Heap.lt_size e) I.ok.above))).trans e1⟩
  ·by_cases hj:j=i
   ·subst hj;rw[hi]at e1;cases e1;rw[List.getElem?_set_self hiY]at e2;cases e2;exact⟨u,r,.inl ⟨hk,by simp⟩⟩
   ·rw[List.getElem?_set_ne (Ne.symm hj)]at e2;obtain⟨u',r',q⟩:=hl j y v' e1 e2 e3;refine⟨u',r',?_⟩;rcases q with⟨k,e⟩|⟨k,c,e,z⟩
    ·refine .inl ⟨k,?_⟩;have:y≠x:=λe=>hj (mr hN e1 (e▸hi));simp[this,e]
    ·exact .inr ⟨k,c,e,z.sameBut hs (cne y c e)⟩
  ·obtain⟨w',z⟩:=I.cell y c e;exact⟨w',z.sameBut hs (cne y c e)⟩
  ·obtain⟨e,n,ne,nf,d⟩:=I.pin p hp;exact⟨(hs.2 p.1 ne).trans e,n,ne,nf,d⟩
 ·have hfn:X.fn x=true:=by
   rcases hf with z|z
   ·exact z
   ·rw[z]at hk;cases hk
  obtain⟨c,hc⟩:=I.ok.has x (.inl hk);obtain⟨w',z⟩:=I.cell x c hc;refine wpAny_storeName_cell I.ok.kind hk hc z (λh' hc' hs=>?_);obtain⟨oc,hoc,hocd⟩:=id z;refine h {s with heap:=h'} ⟨I.ok,I.os,I.bare,⟨λb o e n hb hx=>?_,λb o e n hb hx=>?_,I.base.free,λb o e hx=>?_,I.base.tups,I.base.frzs,I.base.tbls⟩,⟨m,hn.sameBut hs (Ne.symm (cne x c hc)),λj y v' e1 e2 e3=>?_⟩,λy c' e=>?_,I.free,I.freeC,λp hp=>?_,tracked ⟨oc,hoc,I.freeC x c hc⟩ hs,by simpa using I.len⟩ ⟨c,hs,.inr hc⟩
  ·exact(hs.2 b (Nat.ne_of_lt (lt_of_lt_of_le (Heap.lt_size e) (I.ok.cab x c hfn hc)))).trans (I.base.keep b o e n hb hx)
  ·obtain⟨sl,e1⟩:=I.base.slot b o e n hb hx;exact⟨sl,(hs.2 b (Nat.ne_of_lt (lt_of_lt_of_le (Heap.lt_size e) (I.ok.cab x c hfn hc)))).trans e1⟩
  ·obtain⟨o',e1⟩:=I.base.there b o e hx;exact⟨o',(hs.2 b (Nat.ne_of_lt (lt_of_lt_of_le (Heap.lt_size e) (I.ok.cab x c hfn hc)))).trans e1⟩
  ·by_cases hj:j=i
   ·subst hj;rw[hi]at e1;cases e1;rw[List.getElem?_set_self hiY]at e2;cases e2;exact⟨u,r,.inr ⟨.inl hk,c,hc,hc'⟩⟩
   ·rw[List.getElem?_set_ne (Ne.symm hj)]at e2;obtain⟨u',r',q⟩:=hl j y v' e1 e2 e3;refine⟨u',r',?_⟩;rcases q with q|⟨k,c',e,z'⟩
    ·exact .inl q
    ·refine .inr ⟨k,c',e,z'.sameBut hs ?_⟩;rintro rfl;exact hj (mr hN e1 (I.ok.inj _ _ _ e hc▸hi))
  ·by_cases hcc:c'=c
   ·subst hcc;exact⟨_,hc'⟩
   ·obtain⟨w2,z2⟩:=I.cell y c' e;exact⟨w2,z2.sameBut hs hcc⟩
  ·obtain⟨e,n,ne,nf,d⟩:=I.pin p hp;refine⟨(hs.2 p.1 ?_).trans e,n,ne,nf,d⟩;intro q;rw[q,hoc]at e;have q':oc=p.2:=Option.some.inj e;exact d w' (by rw[<-q'];exact hocd)
theorem mv (I:Inv X pins Y H s) (hN:X.N.Nodup) (hi:X.N[i]?=some x) (hx:Loc X.env.scope x) (r:RelV v u) (h:∀s',Inv X pins (Y.set i (some v)) H s'->Q () s') (hf:X.fn x=true\/X.env.scope.names.lookup x=some .local:=by first|exact .inl rfl|exact .inr rfl|assumption):wpAny M A (storeName X.env x u) Q E s:=
 oA I hN hi hx r (λs' I' _=>h s' I') hf
theorem Inv.call' (I:Inv X pins Y H s) (ho:s'.os=s.os) (u:Un (frs X.stack) ch H H' s.heap s'.heap) (hok:HOk X.prog X.w H' s'.heap) (hg:AllBare s'.gens) (hch:∀b∈ch,(b∈X.ex\/X.s₀.heap.objs.size<=b)/\b≠X.env.locals/\(∀x c,X.env.cells.lookup x=some c->c≠b)/\∀p∈X.pn++pins,p.1≠b):Inv X pins Y H' s':=by
 obtain⟨h',g',d',t',o'⟩:=s';have e:o'=s.os:=ho;subst e;exact I.call (g':=g') (t':=t') (d':=d') u hok hg hch
end
abbrev XK:=Value->Option Addr->Hp->Prop
abbrev St:=List (Option V)
abbrev VK:=V->Hp->Prop
abbrev TE:=St->Hp->VK->Prop
abbrev TT:=St->Hp->(Bool->Hp->Prop)->Prop
abbrev TA:=St->Hp->(List V->Hp->Prop)->Prop
structure Ends where
 nx:St->Hp->Prop
 rt:VK
 bk:St->Hp->Prop:=λ_ _=>False
 ct:St->Hp->Prop:=λ_ _=>False
abbrev TS:=Ends->St->Hp->Prop
def EP (X:Cx) (pins:List (Addr×Obj)) (Y:St) (Q:VK) (u:Value) (s':Shared):Prop:=∃v H',Inv X pins Y H' s'/\RelV v u/\Q v H'
def TP (X:Cx) (pins:List (Addr×Obj)) (Y:St) (Q:Bool->Hp->Prop) (b:Bool) (s':Shared):Prop:=∃H',Inv X pins Y H' s'/\Q b H'
def AP (X:Cx) (pins:List (Addr×Obj)) (Y:St) (Q:List V->Hp->Prop) (us:List Value) (s':Shared):Prop:=∃vs H',Inv X pins Y H' s'/\Vals vs us/\Q vs H'
def SP (X:Cx) (pins:List (Addr×Obj)) (D:Ends) (f:Flow) (s':Shared):Prop:=
 match f with
 |.next=>∃Y' H',Inv X pins Y' H' s'/\D.nx Y' H'
 |.brk=>∃Y' H',Inv X pins Y' H' s'/\D.bk Y' H'
 |.cont=>∃Y' H',Inv X pins Y' H' s'/\D.ct Y' H'
 |.ret u=>∃v Y' H',Inv X pins Y' H' s'/\RelV v u/\D.rt v H'
def PE (X:Cx) (e:Expr) (t:TE):Prop:=
 ∀ (pins:List (Addr×Obj)) (s:Shared) (Y:St) (H:Hp) (Q:VK),Inv X pins Y H s->t Y H Q->wpAny (model X.prog X.w) X.A (eval e X.env) (EP X pins Y Q) X.xe s
def PT (X:Cx) (e:Expr) (t:TT):Prop:=
 ∀ (pins:List (Addr×Obj)) (s:Shared) (Y:St) (H:Hp) (Q:Bool->Hp->Prop),Inv X pins Y H s->t Y H Q->wpAny (model X.prog X.w) X.A (isTrue e X.env (eval e X.env)) (TP X pins Y Q) X.xe s
def PW (X:Cx) (e:Expr) (t:TT):Prop:=
 ∀ (whole:Sem Value) (pins:List (Addr×Obj)) (s:Shared) (Y:St) (H:Hp) (Q:Bool->Hp->Prop),Inv X pins Y H s->t Y H Q->wpAny (model X.prog X.w) X.A (isTrue e X.env whole) (TP X pins Y Q) X.xe s
theorem PW.pt (h:PW X e t):PT X e t:=h _
def PA (X:Cx) (es:List Expr) (t:TA):Prop:=
 ∀ (pos:Pos) (pins:List (Addr×Obj)) (s:Shared) (Y:St) (H:Hp) (Q:List V->Hp->Prop),Inv X pins Y H s->t Y H Q->wpAny (model X.prog X.w) X.A (spliced (backTo pos (starEach es X.env))) (AP X pins Y Q) X.xe s
def PS (X:Cx) (st:Stmt) (t:TS):Prop:=
 ∀ (pins:List (Addr×Obj)) (s:Shared) (Y:St) (H:Hp) (D:Ends),Inv X pins Y H s->t D Y H->wpAny (model X.prog X.w) X.A (exec st X.env) (SP X pins D) X.xe s
def PSs (X:Cx) (st:List Stmt) (t:TS):Prop:=
 ∀ (pins:List (Addr×Obj)) (s:Shared) (Y:St) (H:Hp) (D:Ends),Inv X pins Y H s->t D Y H->wpAny (model X.prog X.w) X.A (execs st X.env) (SP X pins D) X.xe s
theorem thn {Q Q':α->Shared->Prop} (h:wpAny M A t Q E s) (hQ:∀a s,Q a s->Q' a s):wpAny M A t Q' E s:=wpAny_mono h hQ λ_ _ x=>x
section
variable {X:Cx}
def J8 (i:Nat):TE:=λY H Q=>∃v,Y[i]?=some (some v)/\Q v H
def tC (v:V):TE:=λ_ H Q=>Q v H
theorem b7 {pos} (hN:X.N[i]?=some x) (hv:Vis X.env.scope x) (hd:(x==("__debug__":Str))=false:=by decide) (hcd:(x==("__classdict__":Str))=false:=by decide):PE X (.Name x pos) (J8 i):=by
 intro pins s Y H Q I h;obtain⟨v,e,h⟩:=h;obtain⟨m,hn,hl⟩:=I.loc;obtain⟨u,r,l⟩:=hl i x v hN e hv;have fin:EP X pins Y Q u s:=⟨v,H,I,r,h⟩;rcases l with⟨hk,hm⟩|⟨hk,c,hc,hcell⟩
 ·exact wpAny_Name (wpAny_loadName_local I.ok.kind hk hn hm fin) hd
 ·rcases hk with hk|hk
  ·exact wpAny_Name (wpAny_loadName_cell I.ok.kind hk hc hcell fin) hd
  ·exact wpAny_Name (wpAny_loadName_free I.ok.kind hk hc hcell fin hcd) hd
theorem pe_int:PE X (.Constant (.int i) j pos) (tC (.int i)):=λ_ _ _ H _ I h=>wpAny_Constant_int ⟨.int i,H,I.tok _,⟨_,rfl⟩,h⟩
theorem pe_bl:PE X (.Constant (.bool b) j pos) (tC (.bl b)):=λ_ _ _ H _ I h=>Constant_bool ⟨.bl b,H,I,rfl,h⟩
theorem pe_non:PE X (.Constant .none j pos) (tC .non):=λ_ _ _ H _ I h=>Constant_none ⟨.non,H,I,rfl,h⟩
theorem pe_str:PE X (.Constant (.str x) j pos) (tC (.str x)):=λ_ _ _ H _ I h=>Calls.Constant_str ⟨.str x,H,I.tok _,⟨_,rfl⟩,h⟩
def Gl (X:Cx) (x:Str):Prop:=X.env.kindOf x=some .globalImplicit
theorem fG {Y:St} (I:Inv X pins Y H s) (hg:Gl X x) (hm:X.mg x=some u) (h:Q u s) (hd:(x==("__debug__":Str))=false:=by decide):wpAny (model X.prog X.w) X.A (eval (.Name x pos) X.env) Q E s:=
 Calls.Name_function_global I.ok.kind hg (Calls.loadGlobal_global (by rw[I.ok.glob];exact I.mod.glob.keeps I.bk) hm h) hd
theorem gk {E} {Y:St} {pos} (I:Inv X pins Y H s) (hg:Gl X x) (hm:X.mg x=none) (hv:bootBuiltins x=some u) (h:Q u s) (hn:x≠"__name__":=by decide) (hd:(x==("__debug__":Str))=false:=by decide):wpAny (model X.prog X.w) X.A (eval (.Name x pos) X.env) Q E s:=by
 obtain⟨mb,h1,h2⟩:=I.mod.blt;exact Calls.Name_function_global I.ok.kind hg (Calls.loadGlobal_builtin (by rw[I.ok.glob];exact I.mod.glob.keeps I.bk) hm (by rw[I.ok.blt];exact h1.keeps I.bk) ((h2 x hn).trans hv) h) hd
theorem uB (hg:Gl X x) (hm:X.mg x=some u) (r:RelV v u) (hd:(x==("__debug__":Str))=false:=by decide):PE X (.Name x pos) (tC v):=
 λ_ _ _ H _ I h=>fG I hg hm ⟨v,H,I,r,h⟩ hd
theorem uC {pos} (hg:Gl X x) (hm:X.mg x=none) (hv:bootBuiltins x=some u) (r:RelV v u) (hn:x≠"__name__":=by decide) (hd:(x==("__debug__":Str))=false:=by decide):PE X (.Name x pos) (tC v):=
 λ_ _ _ H _ I h=>gk I hg hm hv ⟨v,H,I,r,h⟩ hn hd
variable {a b:Expr} {ta tb:TE} {pos:Pos}
variable {tA tB':TT} {rest:List Expr}
def J9 (t u:TT):TT:=λY H Q=>t Y H λc H1=>if c=true then u Y H1 Q else Q false H1
def tOr (t u:TT):TT:=λY H Q=>t Y H λc H1=>if c=true then Q true H1 else u Y H1 Q
def Ka (t:TT):TT:=λY H Q=>t Y H λc H1=>Q (!c) H1
theorem pw_and1 (ha:PT X a tA):PW X (.BoolOp .And [a] pos) tA:=by
 intro wh pins s Y H Q I h;refine isTrue_and (thn (ha pins s Y H Q I h) λc s1 e=>?_);cases c with
 |true=>exact isTrue_and_nil e
 |false=>exact e
theorem pw_or1 (ha:PT X a tA):PW X (.BoolOp .Or [a] pos) tA:=by
 intro wh pins s Y H Q I h;refine isTrue_or (thn (ha pins s Y H Q I h) λc s1 e=>?_);cases c with
 |false=>exact isTrue_or_nil e
 |true=>exact e
theorem pw_and (ha:PT X a tA) (hb:PW X (.BoolOp .And (b::rest) pos) tB'):PW X (.BoolOp .And (a::b::rest) pos) (J9 tA tB'):=by
 intro wh pins s Y H Q I h;refine isTrue_and (thn (ha pins s Y H _ I h) λc s1 ⟨H1,I1,q1⟩=>?_);cases c with
 |true=>exact hb wh pins s1 Y H1 Q I1 q1
 |false=>exact⟨H1,I1,q1⟩
theorem pw_or (ha:PT X a tA) (hb:PW X (.BoolOp .Or (b::rest) pos) tB'):PW X (.BoolOp .Or (a::b::rest) pos) (tOr tA tB'):=by
 intro wh pins s Y H Q I h;refine isTrue_or (thn (ha pins s Y H _ I h) λc s1 ⟨H1,I1,q1⟩=>?_);cases c with
 |true=>exact⟨H1,I1,q1⟩
 |false=>exact hb wh pins s1 Y H1 Q I1 q1
theorem DH (ha:PT X a tA):PT X (.UnaryOp .Not a pos) (Ka tA):=by
 intro pins s Y H Q I h;exact isTrue_not (ha pins s Y H (λc H1=>Q (!c) H1) I h)
def Gx (ta tb:TE):TE:=λY H Q=>ta Y H λx H1=>∃c,x=.bl c/\if c=true then tb Y H1 Q else Q (.bl false) H1
def Kb (ta tb:TE):TE:=λY H Q=>ta Y H λx H1=>∃c,x=.bl c/\if c=true then Q (.bl true) H1 else tb Y H1 Q
def Gy (ta:TE):TE:=λY H Q=>ta Y H λx H1=>∃c,x=.bl c/\Q (.bl (!c)) H1
theorem DI (h:PE X a t):PE X (.BoolOp op [a] pos) t:=λpins s Y H Q I hw=>BoolOp_one (h pins s Y H Q I hw)
theorem DJ (ha:PE X a ta) (hb:PE X (.BoolOp .And (b::rest) pos) tb):PE X (.BoolOp .And (a::b::rest) pos) (Gx ta tb):=by
 intro pins s Y H Q I h;refine BoolOp_and (thn (ha pins s Y H _ I h) λv s1 ⟨x,H1,I1,r1,q1⟩=>?_);obtain⟨c,rfl,q1⟩:=q1;cases r1;refine wpAny_truthy_bool ?_;cases c with
 |true=>exact hb pins s1 Y H1 Q I1 q1
 |false=>exact⟨.bl false,H1,I1,rfl,q1⟩
theorem Gz (ha:PE X a ta) (hb:PE X (.BoolOp .Or (b::rest) pos) tb):PE X (.BoolOp .Or (a::b::rest) pos) (Kb ta tb):=by
 intro pins s Y H Q I h;refine BoolOp_or (thn (ha pins s Y H _ I h) λv s1 ⟨x,H1,I1,r1,q1⟩=>?_);obtain⟨c,rfl,q1⟩:=q1;cases r1;refine wpAny_truthy_bool ?_;cases c with
 |false=>exact hb pins s1 Y H1 Q I1 q1
 |true=>exact⟨.bl true,H1,I1,rfl,q1⟩
theorem DK (ha:PE X a ta):PE X (.UnaryOp .Not a pos) (Gy ta):=by
 intro pins s Y H Q I h;refine UnaryOp_ (thn (ha pins s Y H _ I h) λv s1 ⟨x,H1,I1,r1,q1⟩=>?_);obtain⟨c,rfl,q1⟩:=q1;cases r1;exact not_of (wpAny_truthy_bool ⟨.bl (!c),H1,I1,rfl,q1⟩)
def tIf (t:TT) (ta tb:TE):TE:=λY H Q=>t Y H λc H1=>if c=true then ta Y H1 Q else tb Y H1 Q
theorem wJ (hc:PT X c tA) (ha:PE X a ta) (hb:PE X b tb):PE X (.IfExp c a b pos) (tIf tA ta tb):=by
 intro pins s Y H Q I h;refine wpAny_IfExp (thn (hc pins s Y H _ I h) λd s1 ⟨H1,I1,q1⟩=>?_);cases d with
 |true=>exact ha pins s1 Y H1 Q I1 q1
 |false=>exact hb pins s1 Y H1 Q I1 q1
end
def SqL (K:Frag) (H:Hp) (a:Addr) (xs:List V):Prop:=
 Rd H a (.lst xs)\/
  ∃ (o:Obj) (its:Array Value) (n:Nat),K.lookup a=some o/\o.cls=.type "list"/\o.dict=none/\o.data=.seq its n/\its.size<=sizeLine/\Vals xs its.toList
def SqT (K:Frag) (H:Hp) (a:Addr) (xs:List V):Prop:=
 Rd H a (.tup xs)\/
  ∃ (o:Obj) (its:Array Value) (n:Nat),K.lookup a=some o/\o.cls=.type "tuple"/\o.data=.seq its n/\its.size<=sizeLine/\Vals xs its.toList
def Kc:Value->Option V
 |.none=>some .non
 |.bool b=>some (.bl b)
 |.int i _=>some (.int i)
 |.str x _=>some (.str x)
 |.bytes b _=>some (.byt b)
 |.float b _=>some (.flt b)
 |.ref a=>some (.ref a)
 |.type n=>some (.ty n)
 |_=>none
theorem RelV.abs (r:RelV x u):Kc u=some x:=by
 cases x with
 |non=>cases r;rfl
 |bl _=>cases r;rfl
 |int _=>obtain⟨t,rfl⟩:=r;rfl
 |str _=>obtain⟨t,rfl⟩:=r;rfl
 |byt _=>obtain⟨t,rfl⟩:=r;rfl
 |flt _=>obtain⟨t,rfl⟩:=r;rfl
 |ref _=>cases r;rfl
 |ty _=>cases r;rfl
theorem RelV.inj (r:RelV x u) (q:RelV y u):x=y:=Option.some.inj (r.abs.symm.trans q.abs)
theorem Vals.inj:∀ {xs ys:List V} {us:List Value},Vals xs us->Vals ys us->xs=ys
 |_,_,_,.nil,.nil=>rfl
 |_,_,_,.cons r t,.cons r' t'=>by rw[r.inj r',Vals.inj t t']
section
variable {X:Cx} {pins:List (Addr×Obj)} {Y:St} {H:Hp} {s:Shared} {a:Addr} {xs ys:List V}
theorem SqL.up {K} (h:∀b o,H b=some o->H' b=some o) (q:SqL K H a xs):SqL K H' a xs:=by
 rcases q with(q|⟨o,q⟩)|q
 ·exact .inl (.inl (h _ _ q))
 ·exact .inl (.inr ⟨o,h _ _ q⟩)
 ·exact .inr q
theorem SqL.of {K} (h:H a=some (.lst xs)):SqL K H a xs:=.inl (.inl h)
theorem SqT.of {K} (h:H a=some (.tup xs)):SqT K H a xs:=.inl (.inl h)
theorem Inv.list (I:Inv X pins Y H s) (h:SqL X.K H a xs):∃its:List Value,Vals xs its/\PlainL s.heap a its.toArray/\xs.length<=sizeLine:=by
 rcases h with h|⟨o,its,n,hk,hc,hd,hs,hz,r⟩
 ·obtain⟨z,its,n,r,e⟩:=h.ok I.hok;exact⟨its,r,⟨_,n,e,rfl,rfl,rfl⟩,z⟩
 ·refine⟨its.toList,r,⟨o,n,I.kIn a o hk,hc,hd,by simpa using hs⟩,?_⟩;have e:=r.length;simp only[Array.length_toList]at e;omega
theorem Inv.tuple (I:Inv X pins Y H s) (h:SqT X.K H a xs):∃its:List Value,Vals xs its/\IsTup s.heap a its.toArray/\xs.length<=sizeLine:=by
 rcases h with h|⟨o,its,n,hk,hc,hs,hz,r⟩
 ·obtain⟨z,its,r,p⟩:=h.ok I.hok;exact⟨its,r,p,z⟩
 ·refine⟨its.toList,r,⟨o,I.kIn a o hk,hc,n,by simpa using hs⟩,?_⟩;have e:=r.length;simp only[Array.length_toList]at e;omega
theorem Inv.list_inj (I:Inv X pins Y H s) (h:SqL X.K H a xs) (h':SqL X.K H a ys):xs=ys:=by
 obtain⟨its,r,⟨o,n,e,_,_,d⟩,_⟩:=I.list h;obtain⟨its',r',⟨o',n',e',_,_,d'⟩,_⟩:=I.list h';rw[e]at e';cases e';rw[d]at d';injection d' with d1 _;have:its=its':=by simpa using congrArg Array.toList d1
 subst this;exact r.inj r'
theorem Inv.tuple_inj (I:Inv X pins Y H s) (h:SqT X.K H a xs) (h':SqT X.K H a ys):xs=ys:=by
 obtain⟨its,r,⟨o,e,_,n,d⟩,_⟩:=I.tuple h;obtain⟨its',r',⟨o',e',_,n',d'⟩,_⟩:=I.tuple h';rw[e]at e';cases e';rw[d]at d';injection d' with d1 _;have:its=its':=by simpa using congrArg Array.toList d1
 subst this;exact r.inj r'
end
abbrev Cx.wish (X:Cx) (E:Value->Shared->Prop):Cx:={X with xe:=E}
abbrev Cx.nox (X:Cx):Cx:=X.wish λ_ _=>False
theorem Cx.Ok.wish {X:Cx} (ok:X.Ok) (E:Value->Shared->Prop):(X.wish E).Ok:=
 ⟨ok.mod,ok.kind,ok.glob,ok.blt,ok.above,ok.inj,ok.has,ok.cab,ok.hd,ok.frames,ok.stk,ok.exf,ok.bs,ok.bsz,ok.noex,ok.exfs,ok.funs,ok.frf⟩
theorem Cx.Ok.unwish {X:Cx} (ok:(X.wish E).Ok):X.Ok:=
 ⟨ok.mod,ok.kind,ok.glob,ok.blt,ok.above,ok.inj,ok.has,ok.cab,ok.hd,ok.frames,ok.stk,ok.exf,ok.bs,ok.bsz,ok.noex,ok.exfs,ok.funs,ok.frf⟩
section
variable {X:Cx} {pins:List (Addr×Obj)} {Y:St} {H:Hp} {s:Shared} {E:Value->Shared->Prop}
theorem Inv.wish (I:Inv X pins Y H s) (E:Value->Shared->Prop):Inv (X.wish E) pins Y H s:=⟨I.ok.wish E,I.os,I.bare,I.base,I.loc,I.cell,I.free,I.freeC,I.pin,I.hok,I.len⟩
theorem Inv.unwish (I:Inv (X.wish E) pins Y H s):Inv X pins Y H s:=⟨I.ok.unwish,I.os,I.bare,I.base,I.loc,I.cell,I.free,I.freeC,I.pin,I.hok,I.len⟩
theorem SP.unwish {D} (h:SP (X.wish E) pins D f s'):SP X pins D f s':=by
 cases f with
 |next=>obtain⟨Y',H',I,q⟩:=h;exact⟨Y',H',I.unwish,q⟩
 |brk=>obtain⟨Y',H',I,q⟩:=h;exact⟨Y',H',I.unwish,q⟩
 |cont=>obtain⟨Y',H',I,q⟩:=h;exact⟨Y',H',I.unwish,q⟩
 |ret u=>obtain⟨v,Y',H',I,r,q⟩:=h;exact⟨v,Y',H',I.unwish,r,q⟩
theorem PSs.nox {st} (h:PSs X.nox st t):PSs X st t:=λpins s Y H D I hw=>
 wpAny_mono (h pins s Y H D (I.wish _) hw) (λ_ _ q=>q.unwish) λ_ _ z=>False.elim z
end
section
variable {X:Cx} {st:Stmt} {rest:List Stmt} {t u:TS} {e:Expr} {te:TE} {pos:Pos}
def wK:TS:=λD Y H=>D.nx Y H
def Kd (t u:TS):TS:=λD Y H=>t {D with nx:=u D} Y H
theorem pss_nil:PSs X [] wK:=λ_ _ Y H _ I h=>wpAny_execs_nil ⟨Y,H,I,h⟩
theorem jb (h1:PS X st t) (h2:PSs X rest u):PSs X (st::rest) (Kd t u):=by
 intro pins s Y H D I h;refine wpAny_execs_cons (thn (h1 pins s Y H {D with nx:=u D} I h) λf s1 q=>?_);cases f with
 |next=>
  obtain⟨Y',H',I',q⟩:=q;exact h2 pins s1 Y' H' D I' q
 |ret v=>exact q
 |brk=>exact q
 |cont=>exact q
def DL:TS:=λD Y H=>D.bk Y H
def GA:TS:=λD Y H=>D.ct Y H
theorem ps_pass:PS X (.Pass pos) wK:=λ_ _ Y H _ I h=>wpAny_Pass ⟨Y,H,I,h⟩
theorem ps_break:PS X (.Break pos) DL:=λ_ _ Y H _ I h=>wpAny_Break ⟨Y,H,I,h⟩
theorem ps_continue:PS X (.Continue pos) GA:=λ_ _ Y H _ I h=>wpAny_Continue ⟨Y,H,I,h⟩
theorem Inv.quiet {Y:St} (I:Inv X pins Y H s):interactive X.env=false:=by simp[interactive,I.ok.kind]
theorem ps_doc:PS X (.Expr (.Constant (.str x) j pos) pos') wK:=λ_ s Y H _ I h=>wpAny_Expr (Calls.Constant_str (show SP X _ _ .next {s with toks:=s.toks+1}from⟨Y,H,I.tok _,h⟩)) I.quiet
def GB (te:TE):TS:=λD Y H=>te Y H λ_ H1=>D.nx Y H1
theorem ib (he:PE X e te) (hs:swapsWith e none pos.line X.env=pure false:=by rfl):PS X (.Expr e pos) (GB te):=by
 intro pins s Y H D I h;exact wpAny_Expr_any (thn (he pins s Y H _ I h) λv s1 ⟨x,H1,I1,r1,q1⟩=>⟨Y,H1,I1,q1⟩) I.quiet hs
def Ke (te:TE):TS:=λD Y H=>te Y H D.rt
theorem sI (he:PE X e te):PS X (.Return (some e) pos) (Ke te):=by
 intro pins s Y H D I h;exact wpAny_Return_some (thn (he pins s Y H _ I h) λv s1 ⟨x,H1,I1,r1,q1⟩=>⟨x,Y,H1,I1,r1,q1⟩)
def GC:TS:=λD _ H=>D.rt .non H
theorem ps_retN:PS X (.Return none pos) GC:=λ_ _ Y H _ I h=>wpAny_Return_none ⟨.non,Y,H,I,rfl,h⟩
def Kf (c:TT) (t u:TS):TS:=λD Y H=>c Y H λb H1=>if b=true then t D Y H1 else u D Y H1
theorem CO (hc:PT X c tc) (ha:PSs X a t) (hb:PSs X b u):PS X (.If c a b pos) (Kf tc t u):=by
 intro pins s Y H D I h;refine wpAny_If (thn (hc pins s Y H _ I h) λd s1 ⟨H1,I1,q1⟩=>?_);cases d with
 |true=>exact ha pins s1 Y H1 D I1 q1
 |false=>exact hb pins s1 Y H1 D I1 q1
def wL:TS:=λ_ _ _=>False
theorem ps_never:PS X st wL:=λ_ _ _ _ _ _ h=>h.elim
theorem pss_never:PSs X sts wL:=λ_ _ _ _ _ _ h=>h.elim
end
abbrev TG:=V->St->Hp->(St->Hp->Prop)->Prop
abbrev TGs:=List V->St->Hp->(St->Hp->Prop)->Prop
def PG (X:Cx) (target:Expr) (t:TG):Prop:=
 ∀ (pins:List (Addr×Obj)) (s:Shared) (Y:St) (H:Hp) (v:V) (u:Value) (Q:St->Hp->Prop),Inv X pins Y H s->RelV v u->t v Y H Q->
  wpAny (model X.prog X.w) X.A (assign target X.env u) (λ_ s'=>∃Y' H',Inv X pins Y' H' s'/\Q Y' H') X.xe s
def PGs (X:Cx) (ts:List Expr) (t:TGs):Prop:=
 ∀ (pins:List (Addr×Obj)) (s:Shared) (Y:St) (H:Hp) (vs:List V) (us:List Value) (Q:St->Hp->Prop),Inv X pins Y H s->Vals vs us->t vs Y H Q->
  wpAny (model X.prog X.w) X.A (assignInOrder ((assignEach ts X.env).map (·.2)) us) (λ_ s'=>∃Y' H',Inv X pins Y' H' s'/\Q Y' H') X.xe s
abbrev DM:=V->V->V->Hp->(Hp->Prop)->Prop
def DN (X:Cx) (t:DM):Prop:=
 ∀ (pins:List (Addr×Obj)) (s:Shared) (Y:St) (H:Hp) (o i v:V) (ov iv u:Value) (Q:Hp->Prop),Inv X pins Y H s->RelV o ov->RelV i iv->RelV v u->t o i v H Q->
  wpAny (model X.prog X.w) X.A (setItem ov iv u) (λ_ s'=>∃H',Inv X pins Y H' s'/\Q H') X.xe s
section
variable {X:Cx} {pos:Pos}
def qM (i:Nat):TG:=λv Y H Q=>Q (Y.set i (some v)) H
theorem uD (hN:X.N.Nodup) (hi:X.N[i]?=some x) (hx:Loc X.env.scope x) (hf:X.fn x=true\/X.env.scope.names.lookup x=some .local:=by first|exact .inl rfl|exact .inr rfl|assumption):PG X (.Name x pos) (qM i):=by
 intro pins s Y H v u Q I r h;exact wpAny_assign_Name (mv I hN hi hx r (λs' I'=>⟨_,H,I',h⟩) hf)
def Kg:TGs:=λvs Y H Q=>vs=[]/\Q Y H
def GD (t:TG) (u:TGs):TGs:=λvs Y H Q=>∃v r,vs=v::r/\t v Y H λY' H'=>u r Y' H' Q
theorem pgs_nil:PGs X [] Kg:=by
 intro pins s Y H vs us Q I r h;obtain⟨e,h⟩:=h;subst e;cases r;exact assignInOrder_nil ⟨Y,H,I,h⟩
theorem qN (h1:PG X e t) (h2:PGs X es u) (hs:(assignEach (e::es) X.env).map (·.2)=assign e X.env::(assignEach es X.env).map (·.2):=by rfl):PGs X (e::es) (GD t u):=by
 intro pins s Y H vs us Q I r h;obtain⟨v,vr,e1,h⟩:=h;subst e1;cases r with
 |cons r rr=>
  rw[hs];refine assignInOrder_cons (thn (h1 pins s Y H _ _ _ I r h) λ_ s1 ⟨Y1,H1,I1,q1⟩=>?_);exact h2 pins s1 Y1 H1 _ _ Q I1 rr q1
def Kh (K:Frag) (n:Nat) (t:TGs):TG:=λv Y H Q=>∃a xs,v=.ref a/\SqT K H a xs/\xs.length=n/\t xs Y H Q
theorem wM {k} (hc:X.calm=true) (h:PGs X es t) (hn:(assignEach es X.env).length=n:=by rfl) (hst:(assignEach es X.env).findIdx? (·.1)=none:=by rfl):PG X (.Tuple es k pos) (Kh X.K n t):=by
 intro pins s Y H v u Q I r hw;obtain⟨a,xs,e1,hq,hl,hw⟩:=hw;subst e1;cases r;obtain⟨its,rv,ht,hz⟩:=I.tuple hq;refine assign_Tuple_tuple (I.ok.hd hc) ht (by simp[hn,<-hl,rv.length]) hst λh' hx=>?_;have I1:Inv X pins Y H {s with heap:=h'}:=I.kept (t':=s.toks) λb o e=>hx b o (Nat.ne_of_lt (Heap.lt_size e)) e;exact h pins _ Y H xs _ Q I1 (by simpa using rv) hw
def Ki (to ti:TE) (t:DM):TG:=λv Y H Q=>to Y H λo H1=>ti Y H1 λi H2=>t o i v H2 λH3=>Q Y H3
theorem wN (ho:PE X o to) (hi:PE X i ti) (hs:DN X t) (ha:∀v,assign (.Subscript o i pos) X.env v=(do
  let ov<-holding [v] (eval o X.env)
  let iv<-holding [v,ov] (eval i X.env)
  standAt pos
  holding [v,ov,iv] (setItem ov iv v)
  release [v,ov,iv] []):=by intro _;rfl):PG X (.Subscript o i pos) (Ki to ti t):=by
 intro pins s Y H v u Q I r h
 rw[ha]
 refine wpAny_bind (wpAny_holding (thn (ho pins s Y H _ I h) λov s1 ⟨x,H1,I1,r1,q1⟩=>?_))
 refine wpAny_bind (wpAny_holding (thn (hi pins s1 Y H1 _ I1 q1) λiv s2 ⟨y,H2,I2,r2,q2⟩=>?_))
 refine wpAny_bind (wpAny_standAt (wpAny_bind (wpAny_holding (thn (hs pins s2 Y H2 x y v ov iv u _ I2 r1 r2 r q2) λ_ s3 ⟨H3,I3,q3⟩=>?_))))
 exact wpAny_release ⟨Y,H3,I3,q3⟩
def wO (te:TE) (g:TG):TS:=λD Y H=>te Y H λx H1=>g x Y H1 D.nx
theorem pG (he:PE X e te) (hg:PG X tg g) (hs:swapsWithSole [tg] e pos.line X.env=pure false:=by rfl) (hw:swappedStores [tg] e X.env=pure none:=by rfl) (h1:(assignEach [tg] X.env).map (·.2)=[assign tg X.env]:=by rfl):PS X (.Assign [tg] e pos) (wO te g):=by
 intro pins s Y H D I h;refine wpAny_Assign_stores (thn (he pins s Y H _ I h) λv s1 ⟨x,H1,I1,r1,q1⟩=>?_) hs hw;rw[h1];exact thn (hg pins s1 Y H1 x v _ I1 r1 q1) λ_ s2 q=>q
theorem wP (hN:X.N.Nodup) (hi:X.N[i]?=some x) (hx:Loc X.env.scope x) (he:PE X e te) (hs:swapsWith e (some (.Name x pos')) pos.line X.env=pure false:=by rfl) (hf:X.fn x=true\/X.env.scope.names.lookup x=some .local:=by first|exact .inl rfl|exact .inr rfl|assumption):
  PS X (.Assign [.Name x pos'] e pos) (wO te (qM i)):=by
 intro pins s Y H D I h
 refine wpAny_Assign_Name (thn (he pins s Y H _ I h) λv s1 ⟨y,H1,I1,r1,q1⟩=>?_) hs
 exact mv I1 hN hi hx r1 (λs2 I2=>⟨_,H1,I2,q1⟩) hf
end
section
variable {X:Cx} {pos:Pos}
end
structure It where
 go:Nat->Hp->Prop
 yld:Nat->Hp->V->Hp->Prop
 stop:Nat->Hp->Prop
def iR (X:Cx) (pins:List (Addr×Obj)) (H:Hp) (b:Addr):Prop:=
 H b=none/\b≠X.env.locals/\b ∉ X.fs/\(b∈X.ex\/X.s₀.heap.objs.size<=b)/\(∀x c,X.env.cells.lookup x=some c->c≠b)/\∀p∈X.pn++pins,p.1≠b
theorem Inv.fpOk {Y:St} {b:Addr} (I:Inv X pins Y H s) (hb:s.heap.objs.size<=b) (hn:H' b=none):iR X pins H' b:=by
 refine⟨hn,Nat.ne_of_gt (lt_of_lt_of_le I.lt hb),I.nofs hb,.inr (Nat.le_trans I.sz hb),λx c e z=>?_,λp hp z=>?_⟩
 ·obtain⟨v,q⟩:=I.cell x c e;exact absurd (lt_of_lt_of_le q.lt (by rw[z];exact hb)) (Nat.lt_irrefl _)
 ·exact absurd (lt_of_lt_of_le (Heap.lt_size (I.pin p hp).1) (by rw[z];exact hb)) (Nat.lt_irrefl _)
structure Turn (P:Program) (w:World) (K:Frag) (tg:Expr) (J:It) (fp:List Addr) (it:Addr) (tn:Nat->Heap->Prop):Prop where
 mem:it∈fp
 obj:∀i h,tn i h->∀b∈fp,∃o,h.get? b=some o/\∀v,o.data≠.cell v
 keep:∀i h h',tn i h->(∀b∈fp,∀o,h.get? b=some o->h'.get? b=some o)->tn i h'
 item:∀ (X:Cx),X.prog=P->X.w=w->X.K=K->X.calm=true->∀ (i:Nat) (pins:List (Addr×Obj)) (s:Shared) (Y:St) (H:Hp) (E:Value->Shared->Prop),Inv X pins Y H s->(∀b∈fp,iR X pins H b)->tn i s.heap->J.go i H->
  wpAny (model P w) X.A (pyNext (.ref it)) (λr s1=>∃u,r=some u/\
   wpAny (model P w) X.A (letOwnedTupleGo tg (.ref it) u) (λ_ s2=>∃x H',Inv X pins Y H' s2/\RelV x u/\J.yld i H x H'/\tn (i+1) s2.heap/\∀b∈fp,H' b=none) E s1) E s
 done:∀ (X:Cx),X.prog=P->X.w=w->X.K=K->X.calm=true->∀ (i:Nat) (pins:List (Addr×Obj)) (s:Shared) (Y:St) (H:Hp) (E:Value->Shared->Prop),Inv X pins Y H s->(∀b∈fp,iR X pins H b)->tn i s.heap->J.stop i H->
  wpAny (model P w) X.A (pyNext (.ref it)) (λr s1=>r=none/\Inv X pins Y H s1) E s
 self:∀ (A:Around) (i:Nat) (s:Shared) (Q:Value->Shared->Prop) (E:Value->Shared->Prop),tn i s.heap->Q (.ref it) s->wpAny (model P w) A (pyIter (.ref it)) Q E s
abbrev TI:=St->Hp->(It->Hp->Prop)->Prop
def PIE (X:Cx) (pins:List (Addr×Obj)) (Y:St) (tg:Expr) (R:It->Hp->Prop) (itv:Value) (s2:Shared):Prop:=
 ∃ (it:Addr) (fp:List Addr) (tn:Nat->Heap->Prop) (J:It) (H':Hp),itv=.ref it/\Inv X pins Y H' s2/\Turn X.prog X.w X.K tg J fp it tn/\tn 0 s2.heap/\(∀b∈fp,iR X pins H' b)/\R J H'
def PI (X:Cx) (tg iter:Expr) (wi:TI):Prop:=
 ∀ (pins:List (Addr×Obj)) (s:Shared) (Y:St) (H:Hp) (R:It->Hp->Prop),Inv X pins Y H s->wi Y H R->
  wpAny (model X.prog X.w) X.A (eval iter X.env) (λv s1=>wpAny (model X.prog X.w) X.A (pyIter v) (PIE X pins Y tg R) X.xe s1) X.xe s
theorem uE (ho:s.heap.get? it = some o) (hc:o.cls = .type n) (hd:o.data = .fields vs) (hn:["enumerate", "zip", "dict_itemiterator", "dict_reverseitemiterator", "odict_iterator", "itertools.zip_longest", "itertools.pairwise"].contains n = false) (hQ:Q () s):wpAny M A (letOwnedTupleGo tg (.ref it) u) Q E s:=by
  unfold letOwnedTupleGo
  cases tg <;> first
    | exact wpAny_pure hQ
    | (cases u <;> first
        | exact wpAny_pure hQ
        | (refine wpAny_bind (wpAny_load ho ?_)
           rw [hc,hd]
           show wpAny M A (if (["enumerate", "zip", "dict_itemiterator", "dict_reverseitemiterator", "odict_iterator", "itertools.zip_longest", "itertools.pairwise"].contains n && vs[0]? == some (rawInt _)) = true then _ else _) Q E s
           rw [if_neg (by intro h; rw [hn,Bool.false_and] at h; cases h)]
           exact wpAny_pure hQ))
def Itl (K:Frag) (a:Addr):It:=
 ⟨λi H=>∃xs x,SqL K H a xs/\xs[i]?=some x,λi H x H'=>H'=H/\∀xs,SqL K H a xs->xs[i]?=some x,λi H=>∃xs,SqL K H a xs/\xs.length<=i⟩
def Itt (K:Frag) (a:Addr):It:=
 ⟨λi H=>∃xs x,SqT K H a xs/\xs[i]?=some x,λi H x H'=>H'=H/\∀xs,SqT K H a xs->xs[i]?=some x,λi H=>∃xs,SqT K H a xs/\xs.length<=i⟩
def Itr (lo:Int) (n:Nat):It:=⟨λi _=>i<n,λi H x H'=>H'=H/\x=.int (lo+i),λi _=>n<=i⟩
theorem vO {P:Program} {w:World} {K:Frag} {tg:Expr} (a it:Addr):Turn P w K tg (Itl K a) [it] it (λi h=>h.IsListIter it a i) where
 mem:=by simp
 obj:=λi h st b hb=>by
  have e:b=it:=by simpa using hb
  subst e;obtain⟨o,e,c,d⟩:=st;exact⟨o,e,λv z=>by rw[d]at z;cases z⟩
 keep:=λi h h' st k=>st.at λo e=>k it (by simp) o e
 item:=by
  intro X hP hw hK hc i pins s Y H E I hf st hg;subst hP hw hK;obtain⟨xs,x,hq,hx⟩:=hg;obtain⟨its,rv,p,hz⟩:=I.list hq;obtain⟨u,hu,ru⟩:=rv.get hx;obtain⟨f0,f1,f2,f3,f4,f5⟩:=hf it (by simp);refine wpAny_pyNext_list_item st p.isList (x:=u) (by simpa using hu) λh' st' sb=>?_;have I1:Inv X pins Y H {s with heap:=h'}:=I.turned (t':=s.toks) (λb o hb e=>(sb.2 b hb).trans e) f0 f1 f3 f4 f5;obtain⟨o,e,c,d⟩:=id st';exact⟨u,rfl,uE (s:={s with heap:=h'}) e c d (by decide) ⟨x,H,I1,ru,⟨rfl,λys hy=>by rw[I.list_inj hy hq];exact hx⟩,st',λb hb=>(hf b hb).1⟩⟩
 done:=by
  intro X hP hw hK hc i pins s Y H E I hf st hg;subst hP hw hK;obtain⟨xs,hq,hx⟩:=hg;obtain⟨its,rv,p,hz⟩:=I.list hq;obtain⟨f0,f1,f2,f3,f4,f5⟩:=hf it (by simp);have hl:=rv.length;exact wpAny_pyNext_list_end (I.ok.hd hc) st p.isList (by simp;omega) λh' eb=>⟨rfl,I.turned (t':=s.toks) (λb o hb e=>eb b o hb e) f0 f1 f3 f4 f5⟩
 self:=λ_ _ _ _ _ st h=>wpAny_pyIter_listiter st h
theorem sJ {P:Program} {w:World} {K:Frag} {tg:Expr} (a it:Addr):Turn P w K tg (Itt K a) [it] it (λi h=>h.IsTupleIter it a i) where
 mem:=by simp
 obj:=λi h st b hb=>by
  have e:b=it:=by simpa using hb
  subst e;obtain⟨o,e,c,d⟩:=st;exact⟨o,e,λv z=>by rw[d]at z;cases z⟩
 keep:=λi h h' st k=>st.at λo e=>k it (by simp) o e
 item:=by
  intro X hP hw hK hc i pins s Y H E I hf st hg;subst hP hw hK;obtain⟨xs,x,hq,hx⟩:=hg;obtain⟨its,rv,p,hz⟩:=I.tuple hq;obtain⟨u,hu,ru⟩:=rv.get hx;obtain⟨f0,f1,f2,f3,f4,f5⟩:=hf it (by simp);refine wpAny_pyNext_tuple_item st (show s.heap.IsTuple a its.toArray from p) (x:=u) (by simpa using hu) λh' st' sb=>?_;have I1:Inv X pins Y H {s with heap:=h'}:=I.turned (t':=s.toks) (λb o hb e=>(sb.2 b hb).trans e) f0 f1 f3 f4 f5;obtain⟨o,e,c,d⟩:=id st';exact⟨u,rfl,uE (s:={s with heap:=h'}) e c d (by decide) ⟨x,H,I1,ru,⟨rfl,λys hy=>by rw[I.tuple_inj hy hq];exact hx⟩,st',λb hb=>(hf b hb).1⟩⟩
 done:=by
  intro X hP hw hK hc i pins s Y H E I hf st hg;subst hP hw hK;obtain⟨xs,hq,hx⟩:=hg;obtain⟨its,rv,p,hz⟩:=I.tuple hq;obtain⟨f0,f1,f2,f3,f4,f5⟩:=hf it (by simp);have hl:=rv.length;exact wpAny_pyNext_tuple_end (I.ok.hd hc) st (show s.heap.IsTuple a its.toArray from p) (by simp;omega) λh' eb=>⟨rfl,I.turned (t':=s.toks) (λb o hb e=>eb b o hb e) f0 f1 f3 f4 f5⟩
 self:=λ_ _ _ _ _ st h=>wpAny_pyIter_tupleiter st h
theorem sK {P:Program} {w:World} {K:Frag} {tg:Expr} (it:Addr) (lo:Int) (n:Nat):Turn P w K tg (Itr lo n) [it] it (λi h=>IsRangeIter h it (lo+(i:Nat)*1) ((n:Int)-(i:Nat)) 1) where
 mem:=by simp
 obj:=λi h st b hb=>by
  have e:b=it:=by simpa using hb
  subst e;exact⟨_,st,λv z=>by
   have z':Data.fields _=Data.cell v:=z;cases z'⟩
 keep:=λi h h' st k=>k it (by simp) _ st
 item:=by
  intro X hP hw hK hc i pins s Y H E I hf st hg;subst hP hw hK;obtain⟨f0,f1,f2,f3,f4,f5⟩:=hf it (by simp);have W:=Walks.range (prog:=X.prog) (w:=X.w) (I.ok.hd hc) it lo 1 n;refine W.item i s _ _ hg st λv h' tk hv st' kk=>?_;obtain⟨t,rfl⟩:=hv;have I1:Inv X pins Y H {s with heap:=h',toks:=tk}:=I.turned (λb o hb e=>kk b o (by simpa using hb) e) f0 f1 f3 f4 f5;refine⟨_,rfl,uE (s:={s with heap:=h',toks:=tk}) (n:="range_iterator") st' rfl rfl (by decide) ⟨.int (lo+i),H,I1,⟨t,?_⟩,⟨rfl,rfl⟩,st',λb hb=>(hf b hb).1⟩⟩;rw[Int.mul_one]
 done:=by
  intro X hP hw hK hc i pins s Y H E I hf st hg;subst hP hw hK;obtain⟨f0,f1,f2,f3,f4,f5⟩:=hf it (by simp);exact wpAny_pyNext_range_end (I.ok.hd hc) st (by have:n<=i:=hg;omega) λh' eb=>⟨rfl,I.turned (t':=s.toks) (λb o hb e=>eb b o hb e) f0 f1 f3 f4 f5⟩
 self:=λ_ _ _ _ _ st h=>wpAny_pyIter_rangeiter st h
section
variable {X:Cx} {tg:Expr}
theorem wQ {Y:St} {lo hi} (I:Inv X pins Y H s) (h1:-(2^62)<=lo) (h2:lo<2^62) (h3:-(2^62)<=hi) (h4:hi<2^62) (q:R (Itr lo (hi-lo).toNat) H):wpAny (model X.prog X.w) X.A (pyIter (.ref s.heap.objs.size)) (PIE X pins Y tg R) E {s with heap:=s.heap.push {cls:=.type "range",data:=.fields #[.int lo t,.int hi u,.int 1 v]},toks:=tk}:=by
 refine wpAny_pyIter_range (IsRange.new ..) (small_one h1 h2 h3 h4) ?_;have I1:Inv X pins Y H {s with heap:=s.heap.push {cls:=.type "range",data:=.fields #[.int lo t,.int hi u,.int 1 v]},toks:=tk}:=I.kept λb o e=>Heap.get?_push_of_some _ e;refine⟨(s.heap.push {cls:=.type "range",data:=.fields #[.int lo t,.int hi u,.int 1 v]}).objs.size,[(s.heap.push {cls:=.type "range",data:=.fields #[.int lo t,.int hi u,.int 1 v]}).objs.size],_,_,H,rfl,
  I1.kept (t':=tk) λb o e=>Heap.get?_push_of_some _ e,sK _ lo (hi-lo).toNat,?_,λb hb=>?_,q⟩
 ·have e1:lo+((0:Nat):Int)*1=lo:=by simp
  have e2:(((hi-lo).toNat:Nat):Int)-((0:Nat):Int)=Builtin.Range.rangeSize lo hi 1:=by rw[rangeSize_one];split<;>omega
  show IsRangeIter _ _ (lo+((0:Nat):Int)*1) ((((hi-lo).toNat:Nat):Int)-((0:Nat):Int)) 1;rw[e1,e2];exact Heap.get?_push_size _ rfl
 ·have e:b=(s.heap.push {cls:=.type "range",data:=.fields #[.int lo t,.int hi u,.int 1 v]}).objs.size:=by simpa using hb
  subst e;exact I1.fpOk (le_refl _) (I1.hok.fresh (le_refl _))
def GE (ta:TA):TI:=λY H R=>ta Y H λvs H1=>∃j:Int,vs=[.int j]/\ -(2^62)<=j/\j<2^62/\R (Itr 0 j.toNat) H1
theorem vP (hg:Gl X "range") (hm:X.mg "range"=none) (ha:PA X [a] ta) (hs:starEach [a] X.env=[(false,eval a X.env)]:=by rfl):PI X tg (.Call (.Name "range" p) [a] [] pos) (GE ta):=by
 intro pins s Y H R I h;refine Call_ (gk I hg hm boot_range (PyProof.Rows.callWith_type1 (thn (ha pos pins s Y H _ I h) λus s1 ⟨vs,H1,I1,r1,q1⟩=>?_) hs rfl));obtain⟨j,e,q1,q2,q⟩:=q1;subst e;cases r1 with
 |cons r rr=>
  cases rr;obtain⟨t,rfl⟩:=r;exact call_range_1 (wQ I1 (by omega) (by omega) q1 q2 (by simpa using q))
def GF (wi:TI) (g:TG) (tb:TS):TS:=λD Y H=>wi Y H λJ H1=>∃W:Nat->Nat->St->Hp->Prop,(∃m,W 0 m Y H1)/\∀i m Y H,W i m Y H->
 (J.stop i H/\D.nx Y H)\/(J.go i H/\∃N:St->Hp->Prop,(∀Y' H',N Y' H'->∃m',m'<m/\W (i+1) m' Y' H')/\∀x H',J.yld i H x H'->g x Y H' λY2 H2=>tb {D with nx:=N,ct:=N,bk:=D.nx} Y2 H2)
def mw (fp:List Addr) (h:Heap):List (Addr×Obj):=fp.filterMap λb=>(h.get? b).map λo=>(b,o)
theorem fH (hb:b∈fp) (e:h.get? b=some o):(b,o)∈mw fp h:=List.mem_filterMap.mpr ⟨b,hb,by rw[e];rfl⟩
theorem vR (hp:p∈mw fp h):p.1∈fp/\h.get? p.1=some p.2:=by
 obtain⟨b,hb,e⟩:=List.mem_filterMap.mp hp;cases q:h.get? b with
 |none=>rw[q]at e;cases e
 |some o=>
  rw[q]at e;have e':(b,o)=p:=Option.some.inj e;subst e';exact⟨hb,q⟩
theorem Inv.pinned {Y:St} (I:Inv X pins Y H s) (hf:∀b∈fp,iR X pins H b) (ho:∀b∈fp,∃o,s.heap.get? b=some o/\∀v,o.data≠.cell v):Inv X (pins++mw fp s.heap) Y H s:=
 I.pins_of λp hp=>(mem_append.mp hp).elim (λz=>I.pin p (mem_append_right _ z)) λz=>by
  obtain⟨hb,e⟩:=vR z;obtain⟨f0,f1,f2,_⟩:=hf p.1 hb;obtain⟨o,e',d⟩:=ho p.1 hb;rw[e]at e';cases e';exact⟨e,f0,f1,f2,d⟩
theorem Inv.unpinned {Y:St} (I:Inv X (pins++pl) Y H s):Inv X pins Y H s:=I.pins_of λp hp=>I.pin p (mem_append_right _ (mem_append_left _ hp))
theorem sL (hp:PassesOwn (model X.prog X.w) X.A X.env X.xe) (hc:X.calm=true) (hi:PI X tg iter wi) (hg:PG X tg g) (hb:PSs X body tb) (hs:∀x,foldedSetIterable iter X.env x=pure x:=by intro _;rfl):PS X (.For tg iter body [] pos) (GF wi g tb):=by
 intro pins s Y H D I h
 refine wpAny_For (thn (hi pins s Y H _ I h) λv s1 h1=>thn h1 λitv s2 h2=>?_) hs
 obtain⟨it,fp,tn,J,H2,e,I2,T,st2,f2,W,⟨m0,w0⟩,turn⟩:=h2
 subst e
 -- what stays true of the iterator's objects through the loop
 have stat:∀ {H':Hp},(∀b∈fp,H' b=none)->∀b∈fp,iR X pins H' b:=λhn b hb=>⟨hn b hb,(f2 b hb).2⟩
 refine codeAny_forLoop_any (λn s'=>∃i Y' H',Inv X pins Y' H' s'/\tn i s'.heap/\(∀b∈fp,H' b=none)/\W i n Y' H') ?_ m0 ⟨0,Y,H2,I2,st2,λb hb=>(f2 b hb).1,w0⟩
 rintro n s3 ⟨i,Y3,H3,I3,st3,fr3,w3⟩
 rcases turn i n Y3 H3 w3 with⟨stop,qn⟩|⟨go,N,hN,step⟩
 ·refine wpAny_passesOwn hp (thn (T.done X rfl rfl rfl hc i pins s3 Y3 H3 X.xe I3 (stat fr3) st3 stop) λr s4 ⟨hr,I4⟩=>?_)
  subst hr
  exact wpAny_execs_nil ⟨Y3,H3,I4,qn⟩
 ·refine wpAny_passesOwn hp (thn (T.item X rfl rfl rfl hc i pins s3 Y3 H3 X.xe I3 (stat fr3) st3 go) λr s4 ⟨u,hr,h4⟩=>?_)
  subst hr
  refine wpAny_passesOwn hp (thn h4 λ_ s5 ⟨x,H5,I5,r5,y5,st5,fr5⟩=>?_)
  have I5':=I5.pinned (stat fr5) (T.obj _ _ st5)
  refine wpAny_passesOwn hp (thn (hg _ s5 Y3 H5 x u _ I5' r5 (step x H5 y5)) λ_ s6 ⟨Y6,H6,I6,q6⟩=>?_)
  refine wpAny_passesOwn hp (thn (hb _ s6 Y6 H6 _ I6 q6) λf s7 q7=>?_)
  have again:∀ {Y7:St} {H7:Hp},Inv X (pins++mw fp s5.heap) Y7 H7 s7->N Y7 H7->∃m,m<n/\∃i Y' H',Inv X pins Y' H' s7/\tn i s7.heap/\(∀b∈fp,H' b=none)/\W i m Y' H':=λ{Y7 H7} I7 n7=>by
   obtain⟨m',hm,w7⟩:=hN Y7 H7 n7
   refine⟨m',hm,i+1,Y7,H7,I7.unpinned,T.keep _ _ _ st5 λb hb o e=>(I7.pin (b,o) (mem_append_right _ (mem_append_right _ (fH hb e)))).1,λb hb=>?_,w7⟩
   obtain⟨o,e,d⟩:=T.obj _ _ st5 b hb
   exact(I7.pin (b,o) (mem_append_right _ (mem_append_right _ (fH hb e)))).2.1
  cases f with
  |next=>obtain⟨Y7,H7,I7,n7⟩:=q7;exact again I7 n7
  |cont=>obtain⟨Y7,H7,I7,n7⟩:=q7;exact again I7 n7
  |brk=>obtain⟨Y7,H7,I7,q7⟩:=q7;exact⟨Y7,H7,I7.unpinned,q7⟩
  |ret v=>obtain⟨x7,Y7,H7,I7,r7,q7⟩:=q7;exact⟨x7,Y7,H7,I7.unpinned,r7,q7⟩
end
abbrev R2:=V->V->Hp->VK->Prop
def OpR (X:Cx) (f:Value->Value->Sem Value) (r:R2):Prop:=
 ∀ (pins:List (Addr×Obj)) (s:Shared) (Y:St) (H:Hp) (x y:V) (v u:Value) (Q:VK),Inv X pins Y H s->RelV x v->RelV y u->r x y H Q->
  wpAny (model X.prog X.w) X.A (f v u) (EP X pins Y Q) X.xe s
def UnR (X:Cx) (f:Value->Sem Value) (r:V->Hp->VK->Prop):Prop:=
 ∀ (pins:List (Addr×Obj)) (s:Shared) (Y:St) (H:Hp) (x:V) (v:Value) (Q:VK),Inv X pins Y H s->RelV x v->r x H Q->
  wpAny (model X.prog X.w) X.A (f v) (EP X pins Y Q) X.xe s
def dU (X:Cx) (f:Value) (r:List V->Hp->VK->Prop):Prop:=
 ∀ (pins:List (Addr×Obj)) (s:Shared) (Y:St) (H:Hp) (xs:List V) (us:List Value) (Q:VK),Inv X pins Y H s->Vals xs us->r xs H Q->
  wpAny (model X.prog X.w) X.A (call f us) (EP X pins Y Q) X.xe s
def Kj (X:Cx) (r:V->Hp->(Bool->Hp->Prop)->Prop):Prop:=
 ∀ (pins:List (Addr×Obj)) (s:Shared) (Y:St) (H:Hp) (x:V) (v:Value) (Q:Bool->Hp->Prop),Inv X pins Y H s->RelV x v->r x H Q->
  wpAny (model X.prog X.w) X.A (truthy v) (TP X pins Y Q) X.xe s
def tOp (r:R2) (ta tb:TE):TE:=λY H Q=>ta Y H λx H1=>tb Y H1 λy H2=>r x y H2 Q
def tUn (r:V->Hp->VK->Prop) (ta:TE):TE:=λY H Q=>ta Y H λx H1=>r x H1 Q
def rI (C:Int->Int->Prop) (g:Int->Int->V):R2:=λx y H Q=>∃i j,x=.int i/\y=.int j/\C i j/\Q (g i j) H
def rI0 (g:Int->Int->V):R2:=λx y H Q=>∃i j,x=.int i/\y=.int j/\Q (g i j) H
def rU (g:Int->V):V->Hp->VK->Prop:=λx H Q=>∃i,x=.int i/\Q (g i) H
section
variable {X:Cx} {a b c:Expr} {ta tb tc:TE} {pos:Pos}
theorem DO (ha:PE X a ta) (hb:PE X b tb) {Y:St} {R:V->V->Hp->Prop} (I:Inv X pins Y H s) (h:ta Y H λx H1=>tb Y H1 λy H2=>R x y H2) {f:Value->Value->Sem Value} (hf:∀v u s2 x y H2,Inv X pins Y H2 s2->RelV x v->RelV y u->R x y H2->wpAny (model X.prog X.w) X.A (f v u) Q X.xe s2):
  wpAny (model X.prog X.w) X.A (eval a X.env) (λv s₁=>wpAny (model X.prog X.w) X.A (eval b X.env) (λu s₂=>wpAny (model X.prog X.w) X.A (f v u) Q X.xe s₂) X.xe s₁) X.xe s:=by
 refine thn (ha pins s Y H _ I h) λv s1 ⟨x,H1,I1,r1,q1⟩=>?_
 refine thn (hb pins s1 Y H1 _ I1 q1) λu s2 ⟨y,H2,I2,r2,q2⟩=>?_
 exact hf v u s2 x y H2 I2 r1 r2 q2
theorem CP (ho:OpR X (binaryOp op) r) (ha:PE X a ta) (hb:PE X b tb):PE X (.BinOp a op b pos) (tOp r ta tb):=by
 intro pins s Y H Q I h;exact wpAny_BinOp (DO ha hb I h λv u s2 x y H2 I2 rx ry q=>ho pins s2 Y H2 x y v u Q I2 rx ry q)
theorem GG (ho:UnR X (unaryOp op) r) (ha:PE X a ta):PE X (.UnaryOp op a pos) (tUn r ta):=by
 intro pins s Y H Q I h;exact UnaryOp_ (thn (ha pins s Y H _ I h) λv s1 ⟨x,H1,I1,r1,q1⟩=>ho pins s1 Y H1 x v Q I1 r1 q1)
theorem opI {g:Int->Int->Int} (rule:∀ (i j:Int) (t u:Tok) (s:Shared) (Q:Value->Shared->Prop) (E:Value->Shared->Prop),C i j->Q (.int (g i j) s.toks) {s with toks:=s.toks+1}->wpAny (model X.prog X.w) X.A (f (.int i t) (.int j u)) Q E s):
  OpR X f (rI C λi j=>.int (g i j)):=by
 intro pins s Y H x y v u Q I rx ry h
 obtain⟨i,j,rfl,rfl,hc,q⟩:=h
 obtain⟨t,rfl⟩:=rx
 obtain⟨t',rfl⟩:=ry
 exact rule i j t t' s _ _ hc ⟨.int (g i j),H,I.tok _,⟨_,rfl⟩,q⟩
theorem GH {g:Int->Int->Int} (rule:∀ (i j:Int) (t u:Tok) (s:Shared) (Q:Value->Shared->Prop) (E:Value->Shared->Prop),Q (.int (g i j) s.toks) {s with toks:=s.toks+1}->wpAny (model X.prog X.w) X.A (f (.int i t) (.int j u)) Q E s):
  OpR X f (rI0 λi j=>.int (g i j)):=by
 intro pins s Y H x y v u Q I rx ry h
 obtain⟨i,j,rfl,rfl,q⟩:=h
 obtain⟨t,rfl⟩:=rx
 obtain⟨t',rfl⟩:=ry
 exact rule i j t t' s _ _ ⟨.int (g i j),H,I.tok _,⟨_,rfl⟩,q⟩
theorem AH {g:Int->Int->Bool} (rule:∀ (i j:Int) (t u:Tok) (s:Shared) (Q:Value->Shared->Prop) (E:Value->Shared->Prop),Q (.bool (g i j)) s->wpAny (model X.prog X.w) X.A (f (.int i t) (.int j u)) Q E s):
  OpR X f (rI0 λi j=>.bl (g i j)):=by
 intro pins s Y H x y v u Q I rx ry h
 obtain⟨i,j,rfl,rfl,q⟩:=h
 obtain⟨t,rfl⟩:=rx
 obtain⟨t',rfl⟩:=ry
 exact rule i j t t' s _ _ ⟨.bl (g i j),H,I,rfl,q⟩
def wR (i j:Int):Prop:=0<=j/\j<=1000000/\i.natAbs<2^64
def CMul (i j:Int):Prop:=(-(2^64)<i/\i<2^64)\/(-(2^64)<j/\j<2^64)
theorem CMul.ok (h:CMul i j):IntMulOk i j:=by
 rcases h with⟨h1,h2⟩|⟨h1,h2⟩
 ·exact .of_left (intBits_le_64 h1 h2)
 ·exact .of_right (intBits_le_64 h1 h2)
theorem DP:OpR X (binaryOp .Add) (rI0 λi j=>.int (i+j)):=GH λ_ _ _ _ _ _ _ q=>add_int q
theorem DQ:OpR X (binaryOp .Sub) (rI0 λi j=>.int (i-j)):=GH λ_ _ _ _ _ _ _ q=>sub_int q
theorem DR:OpR X (binaryOp .Mult) (rI CMul λi j=>.int (i*j)):=opI λ_ _ _ _ _ _ _ hc q=>mul_int q hc.ok
theorem DS:OpR X (binaryOp .Mod) (rI (λ_ j=>0<j) λi j=>.int (i%j)):=opI λi j _ _ _ _ _ hc q=>by
 have h1:(0:Int)<j:=hc;exact mod_int' (by omega) (by rw[Int.fmod_eq_emod_of_nonneg i (by omega)];exact q)
theorem DT:OpR X (binaryOp .Pow) (rI wR λi j=>.int (i^j.toNat)):=opI λ_ _ _ _ _ _ _ hc q=>pow_int_small hc.1 hc.2.1 hc.2.2 q
theorem unI {g:Int->Int} (rule:∀ (i:Int) (t:Tok) (s:Shared) (Q:Value->Shared->Prop) (E:Value->Shared->Prop),Q (.int (g i) s.toks) {s with toks:=s.toks+1}->wpAny (model X.prog X.w) X.A (f (.int i t)) Q E s):
  UnR X f (rU λi=>.int (g i)):=by
 intro pins s Y H x v Q I rx h
 obtain⟨i,rfl,q⟩:=h
 obtain⟨t,rfl⟩:=rx
 exact rule i t s _ _ ⟨.int (g i),H,I.tok _,⟨_,rfl⟩,q⟩
theorem DU:UnR X (unaryOp .USub) (rU λi=>.int (-i)):=unI λ_ _ _ _ _ q=>neg_int q
end
def qO:V->V->Bool
 |.non,.non=>true|.non,.int _=>true|.int _,.non=>true|.non,.bl _=>true|.bl _,.non=>true|.non,.str _=>true|.str _,.non=>true
 |.int _,.int _=>true|.bl _,.bl _=>true|.str _,.str _=>true|.byt _,.byt _=>true
 |.int _,.str _=>true|.str _,.int _=>true|.bl _,.str _=>true|.str _,.bl _=>true
 |_,_=>false
def rEq:R2:=λx y H Q=>qO x y=true/\Q (.bl (decide (x=y))) H
def rNe:R2:=λx y H Q=>qO x y=true/\Q (.bl (!decide (x=y))) H
theorem uF:decide (V.int i=V.int j)=(i==j):=by
 rw[Bool.eq_iff_iff];simp
theorem dec_bl:decide (V.bl i=V.bl j)=(i==j):=by
 rw[Bool.eq_iff_iff];simp
theorem uG:decide (V.str i=V.str j)=(i==j):=by
 rw[Bool.eq_iff_iff];simp
theorem uH:decide (V.byt i=V.byt j)=(i.toList==j.toList):=by
 rw[Bool.eq_iff_iff];cases i;cases j;simp
section
variable {X:Cx} {a b c:Expr} {ta tb tc:TE} {pos:Pos}
theorem fin_bl {Y:St} (I:Inv X pins Y H s) (q:Q (.bl k) H) (e:k=k'):EP X pins Y Q (.bool k') s:=by
 subst e;exact⟨.bl k,H,I,rfl,q⟩
theorem GI:OpR X (compareOp .Eq) rEq:=by
 intro pins s Y H x y v u Q I rx ry h;obtain⟨hs,q⟩:=h;cases x with
 |non=>
  cases rx;cases y with
  |non=>cases ry;exact PySem.EqNone.eq_none_none (fin_bl I q (by simp))
  |bl j=>cases ry;exact PySem.EqNone.eq_none_bool (fin_bl I q (by simp))
  |int j=>obtain⟨t',rfl⟩:=ry;exact PySem.EqNone.eq_none_int (fin_bl I q (by simp))
  |str j=>obtain⟨t',rfl⟩:=ry;exact PySem.EqNone.eq_none_str (fin_bl I q (by simp))
  |_=>exact absurd (show false=true from hs) Bool.false_ne_true
 |bl i=>
  cases rx;cases y with
  |non=>cases ry;exact PySem.EqNone.eq_bool_none (fin_bl I q (by simp))
  |bl j=>cases ry;exact eq_bool (fin_bl I q dec_bl)
  |str j=>obtain⟨t',rfl⟩:=ry;exact PySem.EqMixed.eq_bool_str (fin_bl I q (by simp))
  |_=>exact absurd (show false=true from hs) Bool.false_ne_true
 |int i=>
  obtain⟨t,rfl⟩:=rx;cases y with
  |non=>cases ry;exact PySem.EqNone.eq_int_none (fin_bl I q (by simp))
  |int j=>obtain⟨t',rfl⟩:=ry;exact eq_int (fin_bl I q uF)
  |str j=>obtain⟨t',rfl⟩:=ry;exact PySem.EqMixed.eq_int_str (fin_bl I q (by simp))
  |_=>exact absurd (show false=true from hs) Bool.false_ne_true
 |str i=>
  obtain⟨t,rfl⟩:=rx;cases y with
  |non=>cases ry;exact PySem.EqNone.eq_str_none (fin_bl I q (by simp))
  |bl j=>cases ry;exact PySem.EqMixed.eq_str_bool (fin_bl I q (by simp))
  |int j=>obtain⟨t',rfl⟩:=ry;exact PySem.EqMixed.eq_str_int (fin_bl I q (by simp))
  |str j=>obtain⟨t',rfl⟩:=ry;exact eq_str (fin_bl I q uG)
  |_=>exact absurd (show false=true from hs) Bool.false_ne_true
 |byt i=>
  obtain⟨t,rfl⟩:=rx;cases y with
  |byt j=>obtain⟨t',rfl⟩:=ry;exact PySem.W.eq_bytes (fin_bl I q uH)
  |_=>exact absurd (show false=true from hs) Bool.false_ne_true
 |_=>cases y<;>exact absurd (show false=true from hs) Bool.false_ne_true
theorem GJ:OpR X (compareOp .NotEq) rNe:=by
 intro pins s Y H x y v u Q I rx ry h;obtain⟨hs,q⟩:=h;cases x with
 |non=>
  cases rx;cases y with
  |non=>cases ry;exact PySem.EqNone.ne_none_none (fin_bl I q (by simp))
  |bl j=>cases ry;exact PySem.EqNone.ne_none_bool (fin_bl I q (by simp))
  |int j=>obtain⟨t',rfl⟩:=ry;exact PySem.EqNone.ne_none_int (fin_bl I q (by simp))
  |str j=>obtain⟨t',rfl⟩:=ry;exact PySem.EqNone.ne_none_str (fin_bl I q (by simp))
  |_=>exact absurd (show false=true from hs) Bool.false_ne_true
 |bl i=>
  cases rx;cases y with
  |non=>cases ry;exact PySem.EqNone.ne_bool_none (fin_bl I q (by simp))
  |bl j=>cases ry;exact ne_bool (fin_bl I q (congrArg not dec_bl))
  |str j=>obtain⟨t',rfl⟩:=ry;exact PySem.EqMixed.ne_bool_str (fin_bl I q (by simp))
  |_=>exact absurd (show false=true from hs) Bool.false_ne_true
 |int i=>
  obtain⟨t,rfl⟩:=rx;cases y with
  |non=>cases ry;exact PySem.EqNone.ne_int_none (fin_bl I q (by simp))
  |int j=>obtain⟨t',rfl⟩:=ry;exact ne_int (fin_bl I q (congrArg not uF))
  |str j=>obtain⟨t',rfl⟩:=ry;exact PySem.EqMixed.ne_int_str (fin_bl I q (by simp))
  |_=>exact absurd (show false=true from hs) Bool.false_ne_true
 |str i=>
  obtain⟨t,rfl⟩:=rx;cases y with
  |non=>cases ry;exact PySem.EqNone.ne_str_none (fin_bl I q (by simp))
  |bl j=>cases ry;exact PySem.EqMixed.ne_str_bool (fin_bl I q (by simp))
  |int j=>obtain⟨t',rfl⟩:=ry;exact PySem.EqMixed.ne_str_int (fin_bl I q (by simp))
  |str j=>obtain⟨t',rfl⟩:=ry;exact ne_str (fin_bl I q (congrArg not uG))
  |_=>exact absurd (show false=true from hs) Bool.false_ne_true
 |byt i=>
  obtain⟨t,rfl⟩:=rx;cases y with
  |byt j=>obtain⟨t',rfl⟩:=ry;exact PySem.W.ne_bytes (fin_bl I q (congrArg not uH))
  |_=>exact absurd (show false=true from hs) Bool.false_ne_true
 |_=>cases y<;>exact absurd (show false=true from hs) Bool.false_ne_true
theorem op_lt:OpR X (compareOp .Lt) (rI0 λi j=>.bl (decide (i<j))):=AH λ_ _ _ _ _ _ _ q=>lt_int q
theorem oB:OpR X (compareOp .LtE) (rI0 λi j=>.bl (decide (i<=j))):=AH λ_ _ _ _ _ _ _ q=>le_int q
theorem CQ:OpR X (compareOp .Gt) (rI0 λi j=>.bl (decide (j<i))):=AH λ_ _ _ _ _ _ _ q=>gt_int q
theorem CS:OpR X (compareOp .GtE) (rI0 λi j=>.bl (decide (j<=i))):=AH λ_ _ _ _ _ _ _ q=>ge_int q
theorem op_isN:OpR X (compareOp .Is) (λx y H Q=>y=.non/\Q (.bl (decide (x=.non))) H):=by
 intro pins s Y H x y v u Q I rx ry h;obtain⟨rfl,q⟩:=h;cases ry;refine is_none_gen (fin_bl I q ?_);cases x<;>first
  |(cases rx;rfl)
  |(obtain⟨t,rfl⟩:=rx;rfl)
theorem OpR.or (h:OpR X f r) (h':OpR X f r'):OpR X f (λx y H Q=>r x y H Q\/r' x y H Q):=by
 intro pins s Y H x y v u Q I rx ry q;rcases q with q|q
 ·exact h pins s Y H x y v u Q I rx ry q
 ·exact h' pins s Y H x y v u Q I rx ry q
theorem dq (b:Expr) (h:op≠.In:=by decide) (h2:op≠.NotIn:=by decide):behindInMarks op b=false:=by
 have e1:(op==CmpOp.In)=false:=by cases op<;>first|rfl|exact absurd rfl h
 have e2:(op==CmpOp.NotIn)=false:=by cases op<;>first|rfl|exact absurd rfl h2
 cases b<;>simp[behindInMarks,e1,e2]
theorem AI (ho:OpR X (compareOp op) r) (ha:PE X a ta) (hb:PE X b tb) (hm:behindInMarks op b=false):PE X (.Compare a [op] [b] pos) (tOp r ta tb):=by
 intro pins s Y H Q I h;exact wpAny_Compare1 (DO ha hb I h λv u s2 x y H2 I2 rx ry q=>ho pins s2 Y H2 x y v u Q I2 rx ry q) hm
def CT (t:TE):TT:=λY H Q=>t Y H λx H'=>∃k,x=.bl k/\Q k H'
theorem AJ (ho:OpR X (compareOp op) r) (ha:PE X a ta) (hb:PE X b tb) (hm:behindInMarks op b=false):PT X (.Compare a [op] [b] pos) (CT (tOp r ta tb)):=by
 intro pins s Y H Q I h;refine wpAny_isTrue_Compare1 (thn (ha pins s Y H _ I h) λv s1 ⟨x,H1,I1,r1,q1⟩=>thn (hb pins s1 Y H1 _ I1 q1) λu s2 ⟨y,H2,I2,r2,q2⟩=>
  thn (ho pins s2 Y H2 x y v u _ I2 r1 r2 q2) λc s3 ⟨z,H3,I3,r3,k,e,q3⟩=>?_) hm
 subst e;cases r3;exact wpAny_truthy_bool ⟨H3,I3,q3⟩
def sM (r r':R2) (ta tb tc:TE):TE:=λY H Q=>ta Y H λx H1=>tb Y H1 λy H2=>r x y H2 λz H3=>∃k,z=.bl k/\
 (if k=true then tc Y H3 λw' H4=>r' y w' H4 Q else Q (.bl false) H3)
theorem wS (ho:OpR X (compareOp op) r) (ho':OpR X (compareOp op') r') (ha:PE X a ta) (hb:PE X b tb) (hc:PE X c tc) (hm:lastMarks [op,op'] [b,c]=false:=by with_unfolding_all rfl):PE X (.Compare a [op,op'] [b,c] pos) (sM r r' ta tb tc):=by
 intro pins s Y H Q I h;refine Compare_chain (thn (ha pins s Y H _ I h) λv s1 ⟨x,H1,I1,r1,q1⟩=>chain_link (thn (hb pins s1 Y H1 _ I1 q1) λu s2 ⟨y,H2,I2,r2,q2⟩=>
  thn (ho pins s2 Y H2 x y v u _ I2 r1 r2 q2) λd s3 ⟨z,H3,I3,r3,k,e,q3⟩=>?_)) hm
 subst e;cases r3;refine wpAny_truthy_bool ?_;cases k with
 |false=>exact ite_ff ⟨.bl false,H3,I3,rfl,q3⟩
 |true=>exact ite_tt (chain_last (thn (hc pins s3 Y H3 _ I3 q3) λw' s4 ⟨z',H4,I4,r4,q4⟩=>ho' pins s4 Y H4 y z' u w' Q I4 r2 r4 q4))
theorem wT (ho:OpR X (compareOp op) r) (ho':OpR X (compareOp op') r') (ha:PE X a ta) (hb:PE X b tb) (hc:PE X c tc) (hm:lastMarks [op,op'] [b,c]=false:=by with_unfolding_all rfl):PT X (.Compare a [op,op'] [b,c] pos) (CT (sM r r' ta tb tc)):=by
 intro pins s Y H Q I h;refine isTrue_chain (thn (ha pins s Y H _ I h) λv s1 ⟨x,H1,I1,r1,q1⟩=>test_link (thn (hb pins s1 Y H1 _ I1 q1) λu s2 ⟨y,H2,I2,r2,q2⟩=>
  thn (ho pins s2 Y H2 x y v u _ I2 r1 r2 q2) λd s3 ⟨z,H3,I3,r3,k,e,q3⟩=>?_)) hm
 subst e;cases r3;refine wpAny_truthy_bool ?_;cases k with
 |false=>
  obtain⟨k',e',q'⟩:=q3;cases e';exact ite_ff ⟨H3,I3,q'⟩
 |true=>
  refine ite_tt (test_last (thn (hc pins s3 Y H3 _ I3 q3) λw' s4 ⟨z',H4,I4,r4,q4⟩=>thn (ho' pins s4 Y H4 y z' u w' _ I4 r2 r4 q4) λd' s5 ⟨z2,H5,I5,r5,k2,e2,q5⟩=>?_));subst e2;cases r5;exact wpAny_truthy_bool ⟨H5,I5,q5⟩
def GK (K:Frag) (x:V) (H:Hp) (k:Bool):Prop:=
 match x with
 |.non=>k=false
 |.bl b=>k=b
 |.int i=>k=(i !=0)
 |.str y=>y.length<=sizeLine/\k=((y.length:Int) !=0)
 |.byt y=>y.size<=sizeLine/\k=((y.size:Int) !=0)
 |.ref p=>(∃xs,SqL K H p xs/\k=!xs.isEmpty)\/(∃xs,SqT K H p xs/\k=!xs.isEmpty)\/∃kvs,H p=some (.dK kvs)/\k=!kvs.isEmpty
 |_=>False
theorem sO {vs:List (κ×Value)} (r:KV kvs vs):(!vs.isEmpty)=!kvs.isEmpty:=by
 cases r<;>rfl
theorem my (r:Vals xs its):(!its.toArray.isEmpty)=!xs.isEmpty:=by
 cases r<;>simp
theorem jM:(sizeLine:Nat)<2^63:=by rw[sizeLine_eq];decide
theorem DV:Kj X (λx H Q=>∃k,GK X.K x H k/\Q k H):=by
 intro pins s Y H x v Q I rx h;obtain⟨k,e,q⟩:=h;have hl:=jM;have hs:sizeLine=16777216:=sizeLine_eq;cases x with
 |non=>
  cases rx;have e':k=false:=e;subst e';exact truthy_none ⟨H,I,q⟩
 |bl b=>
  cases rx;have e':k=b:=e;subst e';exact wpAny_truthy_bool ⟨H,I,q⟩
 |int i=>
  obtain⟨t,rfl⟩:=rx;have e':k=(i !=0):=e;subst e';exact PySem.P.truthy_int ⟨H,I,q⟩
 |str y=>
  obtain⟨t,rfl⟩:=rx;obtain⟨hy,e'⟩:y.length<=sizeLine/\k=((y.length:Int) !=0):=e;subst e';exact PySem.P.truthy_str (by omega) ⟨H,I.tok _,q⟩
 |byt y=>
  obtain⟨t,rfl⟩:=rx;obtain⟨hy,e'⟩:y.size<=sizeLine/\k=((y.size:Int) !=0):=e;subst e';exact PySem.W.truthy_bytes (by omega) ⟨H,I.tok _,q⟩
 |ref p=>
  cases rx;have e':(∃xs,SqL X.K H p xs/\k=!xs.isEmpty)\/(∃xs,SqT X.K H p xs/\k=!xs.isEmpty)\/∃kvs,H p=some (.dK kvs)/\k=!kvs.isEmpty:=e;rcases e' with⟨xs,hx,e'⟩|⟨xs,hx,e'⟩|⟨kvs,hx,e'⟩
  ·subst e';obtain⟨its,r,pl,hz⟩:=I.list hx;have hlen:=r.length;exact wpAny_truthy_list pl.isList (by simp only[size_toArray];omega) ⟨H,I.tok _,by rw[my r];exact q⟩
  ·subst e';obtain⟨its,r,pl,hz⟩:=I.tuple hx;have hlen:=r.length;exact truthy_tuple pl (by simp only[size_toArray];omega) ⟨H,I.tok _,by rw[my r];exact q⟩
  ·subst e';obtain⟨hz,hS,vs,r,m⟩:kvs.length<=sizeLine/\(p==sysModules)=false/\∃vs,KV kvs vs/\s.heap.DictOf (bY X.prog X.w) p vs:=I.hok p _ hx;have hlen:kvs.length=vs.length:=Paired.length r;exact wpAny_truthy_dict hS m (by omega) ⟨H,I.tok _,by rw[sO r];exact q⟩
 |_=>exact(show False from e).elim
theorem wU (ha:PE X a ta) (he:∀whole,isTrue a X.env whole=(do let v<-whole;standAt a.pos;holding [v] (truthy v))):
  PT X a (λY H Q=>ta Y H λx H'=>∃k,GK X.K x H' k/\Q k H'):=by
 intro pins s Y H Q I h
 exact isTrue_plain (thn (ha pins s Y H _ I h) λv s1 ⟨x,H1,I1,r1,q1⟩=>DV pins s1 Y H1 x v Q I1 r1 q1) (he _)
theorem gp (r:Vals [x] us):∃u,us=[u]/\RelV x u:=by
 cases r with
 |cons r1 r2=>cases r2;exact⟨_,rfl,r1⟩
theorem uI (r:Vals [x,y] us):∃u w',us=[u,w']/\RelV x u/\RelV y w':=by
 cases r with
 |cons r1 r2=>
  cases r2 with
  |cons r3 r4=>cases r4;exact⟨_,_,rfl,r1,r3⟩
theorem vS (hc:X.calm=true):dU X (.builtin "max") (λxs H Q=>∃i j,xs=[.int i,.int j]/\Q (.int (if j>i then j else i)) H):=by
 intro pins s Y H xs us Q I r h;obtain⟨i,j,rfl,q⟩:=h;obtain⟨u,w',rfl,⟨t,rfl⟩,⟨t',rfl⟩⟩:=uI r;refine max_two_ints (I.ok.hd hc) λh' tk k=>⟨_,H,I.kept k,?_,q⟩;by_cases hj:j>i
 ·rw[if_pos hj,if_pos hj];exact⟨_,rfl⟩
 ·rw[if_neg hj,if_neg hj];exact⟨_,rfl⟩
end
structure ObjM (h:Heap) (x dx C:Addr) (mA:Str->Option Value):Prop where
 obj:h.get? x=some (PySem.W.instObj C dx)
 ns:h.Ns1 dx mA
 ne:dx≠x
theorem vT {h:Heap} (n:h.Ns1 dx mA):∃od,h.get? dx=some od/\∀name,PySem.W.lookIn name od=some (mA name):=by
 obtain⟨o,es,ep,ho,hd,hk,_,hm⟩:=n;refine⟨o,ho,λname=>?_⟩;have e:=hm name;unfold nsFind findBy at e;rw[<-Array.find?_toList]at e;unfold PySem.W.lookIn;rw[hd];dsimp only;split
 ·rename_i y q;rw[q]at e;exact congrArg some e
 ·rename_i q;rw[q]at e;have a:es.toList.any (·.refKey)=false:=by
   rw[List.any_eq_false];intro y hy;obtain⟨z,t,hkey⟩:=hk y (Array.mem_toList_iff.mp hy);simp[DictEntry.refKey,hkey]
  have a':¬es.toList.any (·.refKey)=true:=by rw[a];exact Bool.false_ne_true
  rw[if_neg a'];exact congrArg some e
theorem ObjM.look (I:ObjM h x dx C mA):∃od,PySem.W.InstAt h x (PySem.W.instObj C dx) C (some od)/\∀name,PySem.W.lookIn name od=some (mA name):=
 let⟨od,ho,hl⟩:=vT I.ns
 ⟨od,⟨I.obj,rfl,rfl,ho⟩,hl⟩
section
variable {prog:Program} {w:World} {A:Around} {E:Value->Shared->Prop} {s:Shared} {K:Frag} {x dx C f:Addr} {mA:Str->Option Value} {name:Str} {v:Value}
theorem AK (X:K.In s.heap) (I:ObjM s.heap x dx C mA) (hg:PySem.W.plainGet K C name=true) (hh:PySem.W.hasDictIn K C=true) (ha:findIn K (.ref C) name=some none) (hv:mA name=some v) (hv':PySem.W.handedIn v=true) (h:Q v {s with toks:=s.toks+1}):
  wpAny (model prog w) A (getAttr (.ref x) name expr) Q E s:=by
 obtain⟨od,J,hl⟩:=I.look
 exact PySem.W.get_value X J (PySem.W.plainGet_of hg).1 (PySem.W.findObj_own hh ha rfl (by rw[hl,hv])) hv' h
theorem wV (X:K.In s.heap) (I:ObjM s.heap x dx C mA) (hg:PySem.W.plainGet K C name=true) (hf:findIn K (.ref C) name=some (some (.ref f))) (ht:PySem.W.isFn K (.ref f)=true) (hv:mA name=none) (h:Q (.ref f,[.ref x]) s):
  wpAny (model prog w) A (getMethod (.ref x) name pl) Q E s:=by
 obtain⟨od,J,hl⟩:=I.look
 exact PySem.W.method_fn X J (PySem.W.plainGet_of hg).1 (PySem.W.plainGet_of hg).2 hf (beq_iff_eq.mp ht) (by show(PySem.W.lookIn name od).map (·.isSome)=some false;rw[hl,hv];rfl) h
theorem AL (X:K.In s.heap) (I:ObjM s.heap x dx C mA) (hs:findIn K (.ref C) "__setattr__"=some (some (.builtin "object.__setattr__"))) (hp:PySem.W.plainOver K C=true) (ht:PySem.W.takerIn K C name=some none) (hh:PySem.W.hasDictIn K C=true) (hw:PySem.Within mA ns) (hsz:ns.length<=sizeLine) (h:∀h',ObjM h' x dx C (λy=>if y=name then some v else mA y)->Heap.SameBut dx s.heap h'->Q () {s with heap:=h',toks:=s.toks+2}):
  wpAny (model prog w) A (setAttr (.ref x) name v) Q E s:=by
 obtain⟨od,J,hl⟩:=I.look
 refine PySem.W.set_plain X J hs (PySem.W.osa_open (s:={s with toks:=s.toks+1}) (r:=none) X J hp ht λb=>?_)
 obtain⟨cd,hc,hd'⟩:=PySem.W.any_some hh
 have hx:s.heap.get? x=some ⟨.ref C,some dx,.plain,#[]⟩:=I.obj
 refine wpAny_bind (wpAny_pure (wpAny_bind (wpAny_bind (wpAny_loadPart hx (wpAny_bind (PySem.W.Looks.here (s:={s with toks:=s.toks+1}) (PySem.W.looks_clsIn X hc) ?_))))))
 rw[hd']
 refine wpAny_pure (a:=some dx) (wpAny_bind (wpAny_pure (wpAny_bind ?_)))
 refine wpAny_nsSet1 (s:={s with toks:=s.toks+1}) I.ns λh' hn2 hs2=>?_
 obtain⟨oD,esD,epD,hoD,hdD,hcD⟩:=hn2.count (PySem.Within.cons name v hw)
 refine wpAny_bind (wpAny_lookBehind hoD (by rw[hdD];exact pastItsLine_dict (Nat.le_trans hcD (by rw[length_cons];omega))) ?_)
 exact wpAny_pure (h _ ⟨(hs2.2 _ (Ne.symm I.ne)).trans I.obj,hn2,I.ne⟩ hs2)
theorem qP (X:K.In s.heap) (hm:PySem.W.makesIn K C=true) (hi:findIn K (.ref C) "__init__"=some (some (.ref f))) (hf:PySem.W.typeIn K (.ref f)=some (.type "function")) (h:codeAny (model prog w) (A.under (.builtin "type.__call__" ⟨.ref C::vs,kw⟩)) (.call (.ref f) ⟨.ref (s.heap.objs.size+1)::vs,kw⟩) (PySem.W.InitBack (s.heap.objs.size+1) R)
   {s with heap:=(s.heap.push PySem.W.emptyDict).push (PySem.W.instObj C s.heap.objs.size)}):
  codeAny (model prog w) A (.call (.ref C) ⟨vs,kw⟩) R s:=by
 obtain⟨hh,g,d,t,os⟩:=s
 exact PySem.W.make_core (PySem.W.makes_of X hm) (PySem.W.looks_findIn X hi) (λself=>PySem.W.bind_fn X self hf) (.inl rfl) h
end
def dW (f:Str) (v:V):List (Str×V)->List (Str×V)
 |[]=>[(f,v)]
 |(g,x)::r=>if g=f then(g,v)::r else(g,x)::dW f v r
theorem kL (f g:Str) (v:V):∀fs:List (Str×V),(dW f v fs).lookup g=if g=f then some v else fs.lookup g
 |[]=>by
  show List.lookup g [(f,v)]=_;by_cases h:g=f
  ·have hb:(g==f)=true:=beq_iff_eq.mpr h;simp only[List.lookup,hb,if_pos h]
  ·have hb:(g==f)=false:=beq_eq_false_iff_ne.mpr h;simp only[List.lookup,hb,if_neg h]
 |(k,x)::r=>by
  have ih:=kL f g v r;rw[show dW f v ((k,x)::r)=(if k=f then(k,v)::r else(k,x)::dW f v r)from rfl];by_cases hk:k=f
  ·rw[if_pos hk];by_cases h:g=k
   ·have hb:(g==k)=true:=beq_iff_eq.mpr h;simp only[List.lookup,hb,if_pos (h.trans hk)]
   ·have hb:(g==k)=false:=beq_eq_false_iff_ne.mpr h;simp only[List.lookup,hb,if_neg (λe:g=f=>h (e.trans hk.symm))]
  ·rw[if_neg hk];by_cases h:g=k
   ·have hb:(g==k)=true:=beq_iff_eq.mpr h;simp only[List.lookup,hb,if_neg (λe:g=f=>hk (h.symm.trans e))]
   ·have hb:(g==k)=false:=beq_eq_false_iff_ne.mpr h;simp only[List.lookup,hb];exact ih
theorem jN (f:Str) (v:V):∀fs:List (Str×V),f∈(dW f v fs).map (·.1)/\∀g,g∈fs.map (·.1)->g∈(dW f v fs).map (·.1)
 |[]=>⟨by simp[dW],λg h=>by simp at h⟩
 |(k,x)::r=>by
  obtain⟨i1,i2⟩:=jN f v r;rw[show dW f v ((k,x)::r)=(if k=f then(k,v)::r else(k,x)::dW f v r)from rfl];by_cases hk:k=f
  ·rw[if_pos hk];subst hk;exact⟨by simp,λg h=>by simpa using h⟩
  ·rw[if_neg hk];refine⟨?_,λg h=>?_⟩
   ·rw[List.map_cons];exact mem_cons_of_mem _ i1
   ·rw[List.map_cons]at h⊢;rcases mem_cons.mp h with e|e
    ·exact mem_cons.mpr (.inl e)
    ·exact mem_cons_of_mem _ (i2 g e)
theorem kM (f:Str) (v:V):∀fs:List (Str×V),(dW f v fs).length<=fs.length+1
 |[]=>by simp[dW]
 |(k,x)::r=>by
  have ih:=kM f v r;rw[show dW f v ((k,x)::r)=(if k=f then(k,v)::r else(k,x)::dW f v r)from rfl];by_cases hk:k=f
  ·rw[if_pos hk,length_cons,length_cons];omega
  ·rw[if_neg hk,length_cons,length_cons];omega
theorem RelO.some_of (r:RelO (some v) o):∃u,o=some u/\RelV v u:=by
 cases o with
 |none=>exact(show False from r).elim
 |some u=>exact⟨u,rfl,r⟩
theorem RelO.none_of (r:RelO none o):o=none:=by
 cases o with
 |none=>rfl
 |some u=>exact(show False from r).elim
theorem vU (r:RelV v u):PySem.W.handedIn u=true:=by
 cases v with
 |non=>cases(show u=Value.none from r);rfl
 |bl b=>cases(show u=Value.bool b from r);rfl
 |int i=>obtain⟨t,e⟩:=(show∃t,u=Value.int i t from r);cases e;rfl
 |str x=>obtain⟨t,e⟩:=(show∃t,u=Value.str x t from r);cases e;rfl
 |byt b=>obtain⟨t,e⟩:=(show∃t,u=Value.bytes b t from r);cases e;rfl
 |flt b=>obtain⟨t,e⟩:=(show∃t,u=Value.float b t from r);cases e;rfl
 |ref a=>cases(show u=Value.ref a from r);rfl
 |ty n=>cases(show u=Value.type n from r);rfl
section
variable {P:Program} {w:World} {H H':Hp} {h h':Heap} {a C dx:Addr} {fs fs':List (Str×V)}
theorem pH (hok:HOk P w H h) (e:H a=some (.ins C dx fs)):∃mA,ObjM h a dx C mA/\(∀f,RelO (fs.lookup f) (mA f))/\PySem.Within mA (fs.map (·.1))/\fs.length<=1000/\H dx=some (.own a):=by
 obtain⟨d,z,ne,ob,mA,n,r,q⟩:=(show ObjOk P w H h a (.ins C dx fs)from hok a _ e);exact⟨mA,⟨ob,n,ne⟩,r,q,z,d⟩
end
structure Cls (K:Frag) (C:Addr):Prop where
 pg:PySem.W.plainGet K C Str.empty=true
 hd:PySem.W.hasDictIn K C=true
 po:PySem.W.plainOver K C=true
 sa:findIn K (.ref C) "__setattr__"=some (some (.builtin "object.__setattr__"))
theorem Cls.get {K} (c:Cls K C) (f:Str):PySem.W.plainGet K C f=true:=c.pg
def NoAttr (K:Frag) (C:Addr) (f:Str):Prop:=findIn K (.ref C) f=some none
theorem NoAttr.taker {K} (n:NoAttr K C f):PySem.W.takerIn K C f=some none:=by
 unfold PySem.W.takerIn;rw[show findIn K (.ref C) f=some none from n];rfl
structure Con (K:Frag) (C:Addr) (f:Str) (v:V) (u:Value):Prop where
 at_:findIn K (.ref C) f=some (some u)
 rel:RelV v u
 get:PySem.W.specialIn K u "__get__"=some none
 cp:PySem.W.copiedNames.contains f=false
structure Meth (K:Frag) (C:Addr) (m:Str) (f:Addr):Prop where
 at_:findIn K (.ref C) m=some (some (.ref f))
 fn:PySem.W.isFn K (.ref f)=true
 kp:PySem.W.keepIn K (.ref f)=true
section
variable {X:Cx} {pins:List (Addr×Obj)} {Y:St} {H:Hp} {s:Shared} {a C dx:Addr} {fs:List (Str×V)} {f:Str} {v:V} {A:Around} {E:Value->Shared->Prop}
theorem sP (I:Inv X pins Y H s) (e:H a=some (.ins C dx fs)) (c:Cls X.K C) (n:NoAttr X.K C f) (l:fs.lookup f=some v) (h:∀u s',Inv X pins Y H s'->RelV v u->Q u s'):wpAny (model X.prog X.w) A (getAttr (.ref a) f b) Q E s:=by
 obtain⟨mA,O,r,_,_,_⟩:=pH I.hok e;obtain⟨u,hu,ru⟩:=RelO.some_of (v:=v) (o:=mA f) (by rw[<-l];exact r f);exact AK I.kIn O (c.get f) c.hd n hu (vU ru) (h u _ (I.tok _) ru)
theorem sQ (I:Inv X pins Y H s) (e:H a=some (.ins C dx fs)) (c:Cls X.K C) (k:Meth X.K C m g) (l:fs.lookup m=none) (h:Q (.ref g,[.ref a]) s):wpAny (model X.prog X.w) A (getMethod (.ref a) m pl) Q E s:=by
 obtain⟨mA,O,r,_,_,_⟩:=pH I.hok e;have hn:mA m=none:=RelO.none_of (by rw[<-l];exact r m);exact wV I.kIn O (c.get m) k.at_ k.fn hn h
theorem sR (I:Inv X pins Y H s) (e:H a=some (.ins C dx fs)) (c:Cls X.K C) (n:NoAttr X.K C f) (hl:fs.length<1000) (ry:RelV y u) (h:∀s',Inv X pins Y (upd H a (.ins C dx (dW f y fs))) s'->Q () s'):wpAny (model X.prog X.w) A (setAttr (.ref a) f u) Q E s:=by
 obtain⟨mA,O,r,wi,_,ho⟩:=pH I.hok e;have hz:(fs.map (·.1)).length<=sizeLine:=by rw[length_map,sizeLine_eq];omega
 refine AL I.kIn O c.sa c.po n.taker c.hd wi hz λh' O' sb=>h _ ?_;have hd:∃o,h'.get? dx=some o:=let⟨o,_,_,e',_⟩:=O'.ns;⟨o,e'⟩;refine I.write (x:=a) (e:=dx) (by rw[e];exact True.intro) (.inr ho) (λb q hb z=>(sb.2 b hb).trans z) hd ?_;refine⟨by rw[ag O.ne];exact ho,?_,O.ne,O'.obj,_,O'.ns,λg=>?_,λg hg=>?_⟩
 ·have:=kM f y fs;omega
 ·show RelO ((dW f y fs).lookup g) (if g=f then some u else mA g);rw[kL];by_cases q:g=f
  ·rw[if_pos q,if_pos q];exact ry
  ·rw[if_neg q,if_neg q];exact r g
 ·by_cases q:g=f
  ·rw[q];exact(jN f y fs).1
  ·refine(jN f y fs).2 g (wi g λz=>hg ?_);show(if g=f then some u else mA g)=none;rw[if_neg q];exact z
theorem Inv.made (I:Inv X pins Y H s):Inv X pins Y (upd (upd H s.heap.objs.size (.own (s.heap.objs.size+1))) (s.heap.objs.size+1) (.ins C s.heap.objs.size []))
  {s with heap:=(s.heap.push PySem.W.emptyDict).push (PySem.W.instObj C s.heap.objs.size)}:=by
 have e1:(s.heap.push PySem.W.emptyDict).get? s.heap.objs.size=some PySem.W.emptyDict:=Heap.get?_push_size s.heap rfl
 have e2:((s.heap.push PySem.W.emptyDict).push (PySem.W.instObj C s.heap.objs.size)).get? (s.heap.objs.size+1)=some (PySem.W.instObj C s.heap.objs.size):=by
  have:=Heap.get?_push_size (s.heap.push PySem.W.emptyDict) (o:=PySem.W.instObj C s.heap.objs.size) rfl;rwa [Heap.size_push]at this
 have e3:(s.heap.push PySem.W.emptyDict).Ns s.heap.objs.size (λ_=>none):=⟨PySem.W.emptyDict,#[],_,e1,rfl,(λe he=>absurd he (by simp)),λ_=>rfl⟩
 have I1:=I.laid (a:=s.heap.objs.size) (o:=.own (s.heap.objs.size+1)) (h':=s.heap.push PySem.W.emptyDict) (t':=s.toks) (λb u q=>Heap.get?_push_of_some _ q) (le_refl _) ⟨_,e1⟩
 refine I1.laid (a:=s.heap.objs.size+1) (o:=.ins C s.heap.objs.size []) (t':=s.toks) (λb u q=>Heap.get?_push_of_some _ q) (Nat.le_of_eq (Heap.size_push _ _)) ?_
 have ne:s.heap.objs.size≠s.heap.objs.size+1:=Nat.ne_of_lt (Nat.lt_succ_self _)
 refine⟨by rw[ag ne,upd_same],Nat.zero_le _,ne,e2,λ_=>none,(Heap.Ns1.of_empty e3).at λo q=>Heap.get?_push_of_some _ q,λ_=>True.intro,λy hy=>absurd rfl hy⟩
theorem AM (hb:attributeBase e f env (eval e env)=eval e env) (h:wpAny (model prog w) A (eval e env) (λo s₁=>wpAny (model prog w) A (getAttr o f true) Q E s₁) E s):wpAny (model prog w) A (eval (.Attribute e f pos) env) Q E s:=
 Attribute_any_ h (by rw[arm_eval_Attribute,hb])
end
def Kk (K:Frag) (ta:TE) (f:Str):TE:=λY H Q=>ta Y H λx H1=>∃a C dx fs v,x=.ref a/\H1 a=some (.ins C dx fs)/\Cls K C/\NoAttr K C f/\fs.lookup f=some v/\Q v H1
def Kl (K:Frag) (ta tv:TE) (f:Str):TS:=λD Y H=>tv Y H λy H1=>ta Y H1 λx H2=>∃a C dx fs,x=.ref a/\H2 a=some (.ins C dx fs)/\Cls K C/\NoAttr K C f/\fs.length<1000/\
 D.nx Y (upd H2 a (.ins C dx (dW f y fs)))
section
variable {X:Cx} {o e value:Expr} {f:Str} {pos pos' tpos:Pos} {ta tv:TE}
theorem wW (he:PE X e ta) (hb:attributeBase e f X.env (eval e X.env)=eval e X.env):PE X (.Attribute e f pos) (Kk X.K ta f):=by
 intro pins s Y H Q I h;refine AM hb (thn (he pins s Y H _ I h) λu s1 ⟨x,H1,I1,rx,a,C,dx,fs,v,ex,ea,c,n,l,q⟩=>?_);subst ex;obtain rfl:u=Value.ref a:=rx;exact sP I1 ea c n l λu' s2 I2 ru=>⟨v,H1,I2,ru,q⟩
theorem wX (ha:PE X o ta) (hv:PE X value tv) (hs:swapsWith value (some (.Attribute o f pos')) pos.line X.env=pure false):PS X (.Assign [.Attribute o f pos'] value pos) (Kl X.K ta tv f):=by
 intro pins s Y H D I h;refine plainObj_wpAny_Assign_Attribute (thn (hv pins s Y H _ I h) λu s1 ⟨y,H1,I1,ry,q⟩=>thn (ha pins s1 Y H1 _ I1 q) λov s2 ⟨x,H2,I2,rx,a,C,dx,fs,ex,ea,c,n,l,q2⟩=>?_) hs;subst ex;obtain rfl:ov=Value.ref a:=rx;exact sR I2 ea c n l ry λs3 I3=>⟨Y,_,I3,q2⟩
end
section
variable {X:Cx} {pins:List (Addr×Obj)} {Y:St} {H:Hp} {s:Shared} {A:Around} {E:Value->Shared->Prop} {Q:Value->Shared->Prop} {c:Value} {b:Bool}
inductive TyOf (K:Frag) (H:Hp):V->Value->Prop where
 |non:TyOf K H .non (.type "NoneType")
 |bl (x:Bool):TyOf K H (.bl x) (.type "bool")
 |int (i:Int):TyOf K H (.int i) (.type "int")
 |str (x:Str):TyOf K H (.str x) (.type "str")
 |flt (x:UInt64):TyOf K H (.flt x) (.type "float")
 |lst {a:Addr} {xs:List V} (e:H a=some (.lst xs)):TyOf K H (.ref a) (.type "list")
 |frz {a:Addr} {o:Obj} {xs:List V} (e:H a=some (.frz o (.lst xs))):TyOf K H (.ref a) (.type "list")
 |tup {a:Addr} {xs:List V} (e:H a=some (.tup xs)):TyOf K H (.ref a) (.type "tuple")
 |dK {a:Addr} {kvs:List (Key×V)} (e:H a=some (.dK kvs)):TyOf K H (.ref a) (.type "dict")
 |dT {a:Addr} {kvs:List (List Key×V)} (e:H a=some (.dT kvs)):TyOf K H (.ref a) (.type "dict")
 |ins {a C dx:Addr} {fs:List (Str×V)} (e:H a=some (.ins C dx fs)) (cl:Cls K C) (ha:findIn K (.ref C) "__class__"=some (some (.builtin "object.__class__")))
  (hn:PySem.W.specialIn K (.builtin "object.__class__") "__get__"=some (some (.builtin "getset_descriptor.__get__"))) (htk:PySem.W.takesIn K (.builtin "object.__class__")=some true)
  (hm:PySem.W.mroIn K C (.type "object")=some true):TyOf K H (.ref a) (.ref C)
end
structure Room (k:Nat) (A:Around):Prop where
 hd:A.handled=none
 dp:A.depth+3*k+5<recursionLimit
 un:A.units+16*k+200<cLine
theorem Room.mono (r:Room k A) (h:j<=k):Room j A:=⟨r.hd,by have:=r.dp;omega,by have:=r.un;omega⟩
theorem Room.deeper (r:Room (k+1) A) (env:Env):Room k (A.deeper env):=
 ⟨r.hd,by have:=r.dp;show A.depth+1+3*k+5<_;omega,by have:=r.un;show A.units+3+16*k+200<_;omega⟩
theorem sS {A:Around}:(A.under (.builtin "type.__call__" ⟨.ref C::us,kw⟩)).depth=A.depth+1:=by
 first|rfl|simp[Around.under,Code.weight,Code.isCreation,Code.isGuard,Code.isCaller,Code.frames,Code.isFrame,guardIds]
theorem sT {A:Around}:(A.under (.builtin "type.__call__" ⟨.ref C::us,kw⟩)).units=A.units+1:=by
 first|rfl|simp[Around.under,Code.cUnits,Code.frames,Code.isFrame]
theorem Room.make (r:Room (k+1) A) (C:Addr) (us:List Value) (kw:List (Str×Value)):Room k (A.under (.builtin "type.__call__" ⟨.ref C::us,kw⟩)):=
 ⟨r.hd,by have:=r.dp;rw[sS];omega,by have:=r.un;rw[sT];omega⟩
theorem Room.depth (r:Room k A):A.depth<recursionLimit:=by have:=r.dp;omega
def GL:TA:=λ_ H Q=>Q [] H
def GM (ta:TE) (tr:TA):TA:=λY H Q=>ta Y H λx H1=>tr Y H1 λxs H2=>Q (x::xs) H2
section
variable {X:Cx} {e:Expr} {es:List Expr} {te:TE} {t:TA} {pos:Pos}
theorem pa_nil:PA X [] GL:=λ_ _ _ _ H Q I h=>Calls.spliced_nil ⟨[],H,I,.nil,h⟩
theorem bK (ha:PE X e te) (hr:PA X es t) (hs:starEach (e::es) X.env=(false,eval e X.env)::starEach es X.env:=by rfl):PA X (e::es) (GM te t):=by
 intro pos pins s Y H Q I h;rw[hs];show wpAny _ _ (spliced ((false,eval e X.env)::backTo pos (starEach es X.env))) _ _ s;refine Calls.spliced_cons (thn (ha pins s Y H _ I h) λu s1 ⟨x,H1,I1,r1,q1⟩=>?_);exact thn (hr pos pins s1 Y H1 _ I1 q1) λus s2 ⟨xs,H2,I2,r2,q2⟩=>⟨x::xs,H2,I2,.cons r1 r2,q2⟩
def Km (t:TA):TE:=λY H Q=>t Y H λxs H1=>xs.length<=sizeLine/\∀p,H1 p=none->Q (.ref p) (upd H1 p (.tup xs))
def Kn (t:TA):TE:=λY H Q=>t Y H λxs H1=>xs.length<=sizeLine/\∀p,H1 p=none->Q (.ref p) (upd H1 p (.lst xs))
theorem sU (h:PA X es t):PE X (.Tuple es x1 pos) (Km t):=by
 intro pins s Y H Q I hq;refine wpAny_Tuple_spliced (thn (h pos pins s Y H _ I hq) λus s1 ⟨xs,H1,I1,r,z,q⟩=>⟨by rw[<-r.length];exact z,?_⟩);have hf:H1 s1.heap.objs.size=none:=I1.hok.fresh (le_refl _);refine⟨.ref s1.heap.objs.size,upd H1 s1.heap.objs.size (.tup xs),I1.laid (t':=s1.toks) (λb u e=>Heap.get?_push_of_some _ e) (le_refl _) ?_,rfl,q _ hf⟩;exact⟨z,us,r,⟨_,Heap.get?_push_size _ rfl,rfl,_,rfl⟩⟩
theorem wY (h:PA X es t):PE X (.List es pos) (Kn t):=by
 intro pins s Y H Q I hq;refine wpAny_List_spliced (thn (h pos pins s Y H _ I hq) λus s1 ⟨xs,H1,I1,r,z,q⟩=>⟨by rw[<-r.length];exact z,?_⟩);have hf:H1 s1.heap.objs.size=none:=I1.hok.fresh (le_refl _);refine⟨.ref s1.heap.objs.size,upd H1 s1.heap.objs.size (.lst xs),I1.laid (t':=s1.toks) (λb u e=>Heap.get?_push_of_some _ e) (le_refl _) ?_,rfl,q _ hf⟩;exact⟨z,us,0,r,Heap.get?_push_size _ rfl⟩
end
abbrev Sp:=List V->Hp->VK->XK->Prop
abbrev CXT:=List Env->Hp->Shared->XK->Value->Shared->Prop
structure Env0 (P:Program) (w:World) (K:Frag) (mg:Str->Option Value) (base:Heap) (A:Around) (outer:List Env) (s:Shared) (H:Hp):Prop where
 frames:A.frames=some outer
 mod:Mod K mg base
 bs:∀b o,base.get? b=some o->s.heap.get? b=some o/\H b=none
 bsz:base.objs.size<=s.heap.objs.size
 funs:s.heap.FunFrames base outer
 frf:(∀b∈frs outer,H b=none)/\GT H
 hok:HOk P w H s.heap
 bare:AllBare s.gens
def CE (outer:List Env) (P:Program) (w:World) (H:Hp) (s:Shared) (Q:VK) (u:Value) (s':Shared):Prop:=
 ∃v H',s'.os=s.os/\AllBare s'.gens/\Un (frs outer) [] H H' s.heap s'.heap/\HOk P w H' s'.heap/\RelV v u/\Q v H'
def CR (CX:CXT) (outer:List Env) (P:Program) (w:World) (H:Hp) (s:Shared) (Q:VK) (E:XK) (r:Result) (s':Shared):Prop:=
 match r with
 |.ok (.ret u)=>CE outer P w H s Q u s'
 |.ok _=>False
 |.error e=>CX outer H s E e s'
structure FnOk (P:Program) (w:World) (K:Frag) (mg:Str->Option Value) (base:Heap) (CX:CXT) (k:Nat) (f:Addr) (fd:FuncData) (ps:List Str) (sp:Sp):Prop where
 len:∀vs H Q E,sp vs H Q E->vs.length=ps.length
 run:∀ (A:Around) (outer:List Env) (s:Shared) (H:Hp) (args:Args) (us:List Value) (vs:List V) (Q:VK) (E:XK),Room k A->Env0 P w K mg base A outer s H->BindsTo s fd args (ps.zip us)->Vals vs us->sp vs H Q E->
  codeAny (model P w) A (.call (.ref f) args) (CR CX outer P w H s Q E) s
theorem FnOk.imp {K} (F:FnOk P w K mg base CX k f fd ps sp) (h:∀vs H Q E,sp' vs H Q E->sp vs H Q E):FnOk P w K mg base CX k f fd ps sp':=
 ⟨λvs H Q E q=>F.len vs H Q E (h _ _ _ _ q),λA outer s H args us vs Q E hr he hb hv hs=>F.run A outer s H args us vs Q E hr he hb hv (h _ _ _ _ hs)⟩
theorem Env0.make {K} (e:Env0 P w K mg base A outer s H) (C:Addr) (us:List Value) (kw:List (Str×Value)):
 Env0 P w K mg base (A.under (.builtin "type.__call__" ⟨.ref C::us,kw⟩)) outer s H:=⟨by first|exact e.frames|(simpa [Around.under,Code.envs,Code.isFrame,pushEnvs] using e.frames),e.mod,e.bs,e.bsz,e.funs,e.frf,e.hok,e.bare⟩
section
variable {X:Cx} {pins:List (Addr×Obj)} {Y:St} {H:Hp} {s s':Shared}
theorem Inv.env0 (I:Inv X pins Y H s):Env0 X.prog X.w X.K X.mg X.base X.A X.stack s H:=
 ⟨I.ok.frames,I.ok.mod,I.bs,Nat.le_trans I.ok.bsz I.sz,I.stack,⟨I.stkFree,I.tab⟩,I.hok,I.bare⟩
theorem Inv.after (I:Inv X pins Y H s) (h:CE X.stack X.prog X.w H s Q u s'):EP X pins Y Q u s':=by
 obtain⟨v,H',os,bare,un,hok,r,q⟩:=h;obtain⟨hh,g,d,t,os'⟩:=s';obtain rfl:os'=s.os:=os;exact⟨v,H',I.call (h':=hh) (g':=g) (d':=d) (t':=t) (ch:=[]) un hok bare (λb z=>absurd z (by simp)),r,q⟩
end
def GN (sp:Sp) (dvs:List V) (E:XK) (t:TA):TE:=λY H Q=>t Y H λvs H1=>sp (vs++dvs) H1 Q E
def GO (C:Addr) (m:Str) (sp:Sp) (dvs:List V) (E:XK) (ta:TE) (t:TA):TE:=λY H Q=>ta Y H λx H1=>∃a dx fs,x=.ref a/\H1 a=some (.ins C dx fs)/\fs.lookup m=none/\
 t Y H1 λvs H2=>sp (x::(vs++dvs)) H2 Q E
def GP (C:Addr) (sp:Sp) (dvs:List V) (E:XK) (t:TA):TE:=λY H Q=>t Y H λvs H1=>∀x dx,H1 x=none->H1 dx=none->dx≠x->
 sp (.ref x::(vs++dvs)) (upd (upd H1 dx (.own x)) x (.ins C dx [])) (λv H2=>v=.non/\Q (.ref x) H2) E
def Binds (K:Frag) (fd:FuncData) (ps:List Str) (ds:List Value):Prop:=
 ∀ (s:Shared) (us:List Value),K.In s.heap->(us++ds).length=ps.length->BindsTo s fd ⟨us,[]⟩ (ps.zip (us++ds))
theorem Binds.all {K} (h:∀us:List Value,us.length=ps.length->bindArgs fd ⟨us,[]⟩=pure (ps.zip us)):Binds K fd ps []:=λs us _ hl=>by
 rw[List.append_nil]at hl⊢;exact .of_eq (h us hl)
def jO (CX:CXT) (X:Cx) (E:XK):Prop:=∀ (pins:List (Addr×Obj)) (Y:St) (H:Hp) (s:Shared) (e:Value) (s':Shared),Inv X pins Y H s->CX X.stack H s E e s'->X.xe e s'
section
variable {X:Cx} {CX:CXT} {k:Nat} {f C:Addr} {fd:FuncData} {ps:List Str} {sp:Sp} {dvs:List V} {ds:List Value} {E:XK} {x m:Str} {p pos apos:Pos} {e o:Expr} {es:List Expr} {ta:TE} {t:TA}
theorem wZ {Y:St} (F:FnOk X.prog X.w X.K X.mg X.base CX k f fd ps sp) (hr:Room k X.A) (hb:Binds X.K fd ps ds) (hd:Vals dvs ds) (hx:jO CX X E) (I:Inv X pins Y H s) (r:Vals vs us) (h:sp (vs++dvs) H Q E):wpAny (model X.prog X.w) X.A (call (.ref f) us) (EP X pins Y Q) X.xe s:=by
 have r2:Vals (vs++dvs) (us++ds):=r.append hd;have hl:(us++ds).length=ps.length:=by rw[<-r2.length];exact F.len _ _ _ _ h
 refine wpAny_call (codeAny_mono (F.run X.A X.stack s H ⟨us,[]⟩ (us++ds) (vs++dvs) Q E hr I.env0 (hb s us I.kIn hl) r2 h) λr s' hq=>?_);cases r with
 |error e=>exact hx pins Y H s e s' I hq
 |ok fl=>
  cases fl with
  |ret u=>exact I.after hq
  |next=>exact False.elim hq
  |brk=>exact False.elim hq
  |cont=>exact False.elim hq
theorem pI (F:FnOk X.prog X.w X.K X.mg X.base CX k f fd ps sp) (hr:Room k X.A) (hg:Gl X x) (hm:X.mg x=some (.ref f)) (hk:PySem.W.keepIn X.K (.ref f)=true) (hb:Binds X.K fd ps ds) (hd:Vals dvs ds) (hx:jO CX X E)
  (ha:PA X (e::es) t) (hdb:(x==("__debug__":Str))=false:=by decide) (he:starEach (e::es) X.env=(false,eval e X.env)::starEach es X.env:=by rfl) (hpl:(backTo pos (starEach es X.env)).any (·.1)=false:=by rfl):
  PE X (.Call (.Name x p) (e::es) [] pos) (GN sp dvs E t):=by
 intro pins s Y H Q I h
 refine wpAny_Call_Name_kw (fG I hg hm ?_ hdb)
 refine PySem.W.callWith_K (h₀:=X.base) I.ok.mod.kin hk (thn (ha pos pins s Y H _ I h) λus s1 ⟨vs,H1,I1,r,q⟩=>⟨I1.kIn,?_⟩) he hpl
 exact wZ F hr hb hd hx I1 r q
theorem w4 (he : PE X o ta) (c : Cls X.K C) (hm : Meth X.K C m f) (F : FnOk X.prog X.w X.K X.mg X.base CX k f fd ps sp) (hr : Room k X.A) (hb : Binds X.K fd ps ds) (hd : Vals dvs ds) (hx : jO CX X E) (ht : eval (.Call (.Attribute o m apos) [] [] pos) X.env = (do
   let ov <- eval o X.env
   standAt apos.atName
   let (f,first) <- holding [ov] (getMethod ov m pl)
   callWith pos f first (backTo pos (starEach [] X.env)) (backToKw pos (keywordEach [] X.env))):=by rfl) :
  PE X (.Call (.Attribute o m apos) [] [] pos) (GO C m sp dvs E ta GL):=by
 intro pins s Y H Q I h
 refine PySem.W.methodCall_KW (pl:=pl) (thn (he pins s Y H _ I h) fun u s1 ⟨x,H1,I1,rx,a,dx,fs,ex,ea,l,q⟩=>?_) ht
 subst ex
 obtain rfl:u = Value.ref a:=rx
 refine sQ I1 ea c hm l ?_
 exact PySem.W.callWith_K0 (first:=[.ref a]) I1.kIn hm.kp (wZ (us:=[.ref a]) (vs:=[.ref a]) F hr hb hd hx I1 (.cons rfl .nil) q)
structure Mk (K:Frag) (C f:Addr):Prop where
 makes:PySem.W.makesIn K C=true
 init:findIn K (.ref C) "__init__"=some (some (.ref f))
 fn:PySem.W.isFn K (.ref f)=true
 kp:PySem.W.keepIn K (.ref C)=true
theorem w5 {Y:St} (M:Mk X.K C f) (F:FnOk X.prog X.w X.K X.mg X.base CX k f fd ps sp) (hr:Room (k+1) X.A) (hb:Binds X.K fd ps ds) (hd:Vals dvs ds) (hx:jO CX X E) (I:Inv X pins Y H s) (r:Vals vs us) (h:∀x dx,H x=none->H dx=none->dx≠x->sp (.ref x::(vs++dvs)) (upd (upd H dx (.own x)) x (.ins C dx [])) (λv H2=>v=.non/\Q (.ref x) H2) E):
  wpAny (model X.prog X.w) X.A (call (.ref C) us) (EP X pins Y Q) X.xe s:=by
 have hq:=h (s.heap.objs.size+1) s.heap.objs.size (I.hok.fresh (Nat.le_succ _)) (I.hok.fresh (le_refl _)) (Nat.ne_of_lt (Nat.lt_succ_self _))
 have I2:=Inv.made (C:=C) I
 have r2:Vals (V.ref (s.heap.objs.size+1)::(vs++dvs)) (Value.ref (s.heap.objs.size+1)::(us++ds)):=.cons rfl (r.append hd)
 have hl:(Value.ref (s.heap.objs.size+1)::us++ds).length=ps.length:=by
  have e:=r2.length;rw[F.len _ _ _ _ hq]at e;exact e.symm
 refine wpAny_call (qP (f:=f) I.kIn M.makes M.init (beq_iff_eq.mp M.fn) (codeAny_mono (F.run _ X.stack _ _ ⟨Value.ref (s.heap.objs.size+1)::us,[]⟩ (Value.ref (s.heap.objs.size+1)::(us++ds)) _ _ E (hr.make C us [])
  (I2.env0.make C us []) (hb _ (Value.ref (s.heap.objs.size+1)::us) I2.kIn hl) r2 hq) λr s' hq'=>?_))
 cases r with
 |error e=>exact hx pins Y _ _ e s' I2 hq'
 |ok fl=>
  cases fl with
  |ret u=>
   obtain⟨v,H',I3,rv,ev,q3⟩:=I2.after hq';subst ev;exact⟨rv,⟨V.ref (s.heap.objs.size+1),H',I3,rfl,q3⟩⟩
  |next=>exact False.elim hq'
  |brk=>exact False.elim hq'
  |cont=>exact False.elim hq'
theorem AN (M:Mk X.K C f) (F:FnOk X.prog X.w X.K X.mg X.base CX k f fd ps sp) (hr:Room (k+1) X.A) (hg:Gl X x) (hm:X.mg x=some (.ref C)) (hb:Binds X.K fd ps ds) (hd:Vals dvs ds) (hx:jO CX X E)
  (ha:PA X (e::es) t) (hdb:(x==("__debug__":Str))=false:=by decide) (he:starEach (e::es) X.env=(false,eval e X.env)::starEach es X.env:=by rfl) (hpl:(backTo pos (starEach es X.env)).any (·.1)=false:=by rfl):
  PE X (.Call (.Name x p) (e::es) [] pos) (GP C sp dvs E t):=by
 intro pins s Y H Q I h
 refine wpAny_Call_Name_kw (fG I hg hm ?_ hdb)
 refine PySem.W.callWith_K (h₀:=X.base) I.ok.mod.kin M.kp (thn (ha pos pins s Y H _ I h) λus s1 ⟨vs,H1,I1,r,q⟩=>⟨I1.kIn,?_⟩) he hpl
 exact w5 M F hr hb hd hx I1 r q
end
section
variable {X:Cx} {CX:CXT} {k:Nat} {f C:Addr} {fd:FuncData} {ps ks:List Str} {sp:Sp} {E:XK} {x m:Str} {p pos apos kpos:Pos} {e o:Expr} {es:List Expr} {kws:List Keyword} {te ta:TE} {t tk:TA} {nm:Option Str}
structure KBinds (K:Frag) (fd:FuncData) (ps ks:List Str) (g:List Value->List Value->List Value) (gV:List V->List V->List V):Prop where
 to:∀ (s:Shared) (us ws:List Value),K.In s.heap->(g us ws).length=ps.length->BindsTo s fd ⟨us,ks.zip ws⟩ (ps.zip (g us ws))
 rel:∀ {vs:List V} {us:List Value} {zs:List V} {ws:List Value},Vals vs us->Vals zs ws->Vals (gV vs zs) (g us ws)
variable {g:List Value->List Value->List Value} {gV:List V->List V->List V}
end
structure FnScope (N P:List Str) (sc:Scope):Prop where
 kind:sc.kind=.function
 co:sc.isCoroutine=false
 gen:sc.isGenerator=false
 nd:N.Nodup
 pre:N.take P.length=P
 par:∀x∈P,sc.names.lookup x=some .local\/sc.names.lookup x=some .cell
 nofree:∀y∈sc.names,y.2≠.free
theorem oC {kindOf}:∀ {binds:List (Str×Value)} {m:Str->Option Value},(∀v,(x,v) ∉ binds)->bindL kindOf binds m x=m x
 |[],_,_=>rfl
 |(n,v)::r,m,h=>by
  unfold bindL;rw[oC λw hw=>h w (mem_cons_of_mem _ hw)];split
  ·have:x≠n:=by rintro rfl;exact h v mem_cons_self
   simp[this]
  ·rfl
theorem oE {kindOf}:∀ {binds:List (Str×Value)} {m:Str->Option Value},(∀v,(x,v) ∉ binds)->bindC kindOf binds m x=m x
 |[],_,_=>rfl
 |(n,v)::r,m,h=>by
  unfold bindC;rw[oE λw hw=>h w (mem_cons_of_mem _ hw)];split
  ·rfl
  ·have:x≠n:=by rintro rfl;exact h v mem_cons_self
   simp[this]
theorem oF {kindOf}:∀ {P:List Str} {vs:List Value} {i:Nat} {m:Str->Option Value},P.Nodup->P[i]?=some x->vs[i]?=some v->kindOf x=some .local->
  bindL kindOf (P.zip vs) m x=some v
 |[],_,_,_,_,h,_,_=>by simp at h
 |_::_,[],_,_,_,_,h,_=>by simp at h
 |p::P,w::vs,0,m,nd,h1,h2,hk=>by
  simp at h1 h2;subst h1;subst h2;show bindL kindOf ((p,w)::P.zip vs) m p=_;unfold bindL;rw[oC λv hv=>(List.nodup_cons.mp nd).1 (List.of_mem_zip hv).1,if_pos hk];simp
 |p::P,w::vs,i+1,m,nd,h1,h2,hk=>by
  show bindL kindOf ((p,w)::P.zip vs) m x=_;unfold bindL;exact oF (i:=i) (List.nodup_cons.mp nd).2 (by simpa using h1) (by simpa using h2) hk
theorem oG {kindOf}:∀ {P:List Str} {vs:List Value} {i:Nat} {m:Str->Option Value},P.Nodup->P[i]?=some x->vs[i]?=some v->kindOf x≠some .local->
  bindC kindOf (P.zip vs) m x=some v
 |[],_,_,_,_,h,_,_=>by simp at h
 |_::_,[],_,_,_,_,h,_=>by simp at h
 |p::P,w::vs,0,m,nd,h1,h2,hk=>by
  simp at h1 h2;subst h1;subst h2;show bindC kindOf ((p,w)::P.zip vs) m p=_;unfold bindC;rw[oE λv hv=>(List.nodup_cons.mp nd).1 (List.of_mem_zip hv).1,if_neg hk];simp
 |p::P,w::vs,i+1,m,nd,h1,h2,hk=>by
  show bindC kindOf ((p,w)::P.zip vs) m x=_;unfold bindC;exact oG (i:=i) (List.nodup_cons.mp nd).2 (by simpa using h1) (by simpa using h2) hk
def f9 (N:List Str) (vs:List V):St:=vs.map some++List.replicate (N.length-vs.length) none
def gq (CX:CXT) (P:Program) (w:World) (K:Frag) (mg:Str->Option Value) (base:Heap) (N:List Str) (qual:Str) (scope:Scope) (f:Addr) (cd:Value) (A:Around) (outer:List Env) (s:Shared) (H:Hp) (E:XK):Cx where
 prog:=P
 w:=w
 K:=K
 mg:=mg
 base:=base
 A:=A.deeper (envOfC qual scope s.heap.objs.size f cd)
 N:=N
 s₀:=s
 H₀:=H
 env:=envOfC qual scope s.heap.objs.size f cd
 outer:=outer
 stack:=envOfC qual scope s.heap.objs.size f cd::outer
 ex:=[]
 calm:=true
 fn:=λ_=>true
 pn:=[]
 xe:=λe s'=>wpAny (model P w) (A.deeper (envOfC qual scope s.heap.objs.size f cd)) (leaving (envOfC qual scope s.heap.objs.size f cd) e) (λ_ s''=>CX outer H s E e s'') (λe' s''=>CX outer H s E e' s'') s'
theorem qQ {sc:Scope} (h:sc.names.lookup x=some .cell):∃c,(cellsFrom n sc.names []).lookup x=some c:=by
 have q:=PySem.W.cellsFrom_some sc.names n [] (.inl h);exact Option.isSome_iff_exists.mp q
theorem vV {K} (S:FnScope N ps scope) (hd:A.handled=none) (e0:Env0 P w K mg base A outer s H) (hl:vs.length=ps.length) (r:Vals vs us) (x:InCallC s s.heap.objs.size (bindL (envOfC qual scope s.heap.objs.size f cd).kindOf (ps.zip us) λ_=>none) (cellsFrom (s.heap.objs.size+1) scope.names []) (bindC (envOfC qual scope s.heap.objs.size f cd).kindOf (ps.zip us) λ_=>none) s1):
  Inv (gq CX P w K mg base N qual scope f cd A outer s H E) [] (f9 N vs) H s1:=by
 have hpl:ps.length<=N.length:=by have:=congrArg List.length S.pre;rw[List.length_take]at this;omega
 obtain⟨h1,tk,rfl,hk⟩:=x.done
 have noA:∀b:Addr,b ∉ (gq CX P w K mg base N qual scope f cd A outer s H E).ex:=λb z=>absurd (show b∈([]:List Addr)from z) (by simp)
 refine⟨⟨e0.mod,S.kind,rfl,rfl,le_refl _,λy z c h1 h2=>?_,λy hy=>?_,λy c _ h=>?_,λ_=>hd,Around.frames_deeper e0.frames,.inr ⟨rfl,rfl⟩,λb z=>absurd z (noA b),e0.bs,e0.bsz,λb _ _=>noA b,λb z=>absurd z (noA b),e0.funs,e0.frf⟩,
  rfl,e0.bare,Un.kept hk,⟨_,x.toInCall.ns,λi y v h1 h2 h3=>?_⟩,λy c h=>⟨_,x.cell y c h⟩,e0.hok.fresh (le_refl _),λy c h=>?_,λp hp=>absurd (show p∈([]:List (Addr×Obj))from hp) (by simp),e0.hok.kept hk,?_⟩
 ·exact name_of_addr x.apart (PySem.mem_of_lookup h1) (PySem.mem_of_lookup h2)
 ·have hy:scope.names.lookup y=some .cell\/scope.names.lookup y=some .free:=hy;rcases hy with hy|hy
  ·exact qQ hy
  ·exact absurd rfl (S.nofree _ (PySem.mem_of_lookup hy))
 ·exact Nat.le_of_lt (x.above y c (PySem.mem_of_lookup h))
 ·have hi:i<vs.length:=by
   unfold f9 at h2;by_cases hi:i<vs.length
   ·exact hi
   ·rw[getElem?_append_right (by simpa using hi)]at h2;rw[List.getElem?_replicate]at h2;split at h2<;>cases h2
  have ha:vs[i]?=some v:=by
   unfold f9 at h2;rw[getElem?_append_left (by simpa using hi),getElem?_map]at h2;cases e:vs[i]? with
   |none=>rw[e]at h2;cases h2
   |some a=>rw[e]at h2;cases h2;rfl
  obtain⟨u,hu,rv⟩:=r.get ha;have hp:ps[i]?=some y:=by
   rw[<-S.pre,List.getElem?_take_of_lt (by omega)];exact h1
  have ndP:ps.Nodup:=by rw[<-S.pre];exact S.nd.sublist (List.take_sublist _ _)
  refine⟨u,rv,?_⟩;rcases S.par y (mem_of_getElem? hp)with k|k
  ·exact .inl ⟨k,oF ndP hp hu k⟩
  ·obtain⟨c,e⟩:=qQ (n:=s.heap.objs.size+1) k;refine .inr ⟨.inl k,c,e,?_⟩;have q:=x.cell y c e;rw[oG ndP hp hu (by show scope.names.lookup y≠_;rw[k];decide)]at q;exact q
 ·exact e0.hok.fresh (Nat.le_of_lt (x.above y c (PySem.mem_of_lookup h)))
 ·unfold f9;show _=N.length;rw[length_append,length_map,List.length_replicate];omega
theorem w6 {K} {dV kV doc pm cdv ct oc} (lk:K.lookup f=some ⟨oc,od,.func (PySem.W.fnOf name qual params body scope dV kV doc pm an cdv ct),osl⟩) (hcd:PySem.W.codeIn K cdv qual=true) (S:FnScope N ps scope) (len:∀vs H Q E,sp vs H Q E->vs.length=ps.length) (hbody:∀ (A:Around) (outer:List Env) (s:Shared) (H:Hp) (vs:List V) (Q:VK) (E:XK),Room k (A.deeper (envOfC qual scope s.heap.objs.size f cdv))->sp vs H Q E->
   ∃t,PSs (gq CX P w K mg base N qual scope f cdv A outer s H E) body t/\t {nx:=λ_ H'=>Q .non H',rt:=Q} (f9 N vs) H):
  FnOk P w K mg base CX (k+1) f (PySem.W.fnOf name qual params body scope dV kV doc pm an cdv ct) ps sp:=by
 refine⟨len,λA outer s H args us vs Q E hr e0 hb r hsp=>?_⟩
 have hl:=len _ _ _ _ hsp
 have KX:K.In s.heap:=e0.mod.kin.keeps λb o e=>(e0.bs b o e).1
 have lim:s.heap.NoLimit:=e0.mod.nolimit.keeps λb o e=>(e0.bs b o e).1
 have hkind:∀y∈ps.zip us,scope.names.lookup y.1=some .local\/(scope.names.lookup y.1=some .cell/\((cellsFrom (s.heap.objs.size+1) scope.names []).lookup y.1).isSome=true):=λ⟨n,v⟩ hy=>by
  rcases S.par n (List.of_mem_zip hy).1 with q|q
  ·exact .inl q
  ·exact .inr ⟨q,PySem.W.cellsFrom_some _ _ _ (.inl q)⟩
 refine codeAny_call_function hr.depth (KX _ _ lk) rfl S.co S.gen rfl (PySem.W.codeRec_of KX hcd) (hb _ _ _ _ ?_)
 refine wpAny_newFunctionEnv_cells S.kind hkind λenv he s1 x=>?_
 subst he
 refine⟨lim.keeps x.toInCall.keep,codeAny_func ?_⟩
 obtain⟨t,ht,hq⟩:=hbody A outer s H vs Q E (hr.deeper _) hsp
 have I:Inv (gq CX P w K mg base N qual scope f cdv A outer s H E) [] (f9 N vs) H s1:=vV S hr.hd e0 hl r x
 refine wpAny_mono (ht [] s1 (f9 N vs) H _ I hq) (λfl s' hs=>?_) λe s' hs=>hs
 have fin:∀ {Y':St} {H':Hp} {v:V} {u:Value},Inv (gq CX P w K mg base N qual scope f cdv A outer s H E) [] Y' H' s'->RelV v u->Q v H'->CE outer P w H s Q u s':=
  λ{Y' H' v u} J rv q=>⟨v,H',J.os,J.bare,J.base,J.hok,rv,q⟩
 cases fl with
 |ret u=>
  obtain⟨v,Y',H',J,rv,q⟩:=hs;exact fin J rv q
 |next=>
  obtain⟨Y',H',J,q⟩:=hs;exact fin (v:=V.non) (u:=Value.none) J rfl q
 |brk=>
  obtain⟨_,_,_,q⟩:=hs;exact False.elim q
 |cont=>
  obtain⟨_,_,_,q⟩:=hs;exact False.elim q
section
variable {X:Cx} {x:Str} {p pos:Pos} {e:Expr} {es:List Expr} {t:TA} {id T:String} {r:List V->Hp->VK->Prop}
def tCB (r:List V->Hp->VK->Prop) (t:TA):TE:=λY H Q=>t Y H λvs H1=>r vs H1 Q
theorem gr (hc:dU X (.builtin id) r) (hg:Gl X x) (hm:X.mg x=none) (hv:bootBuiltins x=some (.builtin id)) (ha:PA X (e::es) t) (hn:x≠"__name__":=by decide) (hdb:(x==("__debug__":Str))=false:=by decide)
  (he:starEach (e::es) X.env=(false,eval e X.env)::starEach es X.env:=by rfl) (hpl:(backTo pos (starEach es X.env)).any (·.1)=false:=by rfl):PE X (.Call (.Name x p) (e::es) [] pos) (tCB r t):=by
 intro pins s Y H Q I h
 refine wpAny_Call_Name_kw (gk I hg hm hv ?_ hn hdb)
 exact PyProof.Rows.callWith_builtin1 (thn (ha pos pins s Y H _ I h) λus s1 ⟨vs,H1,I1,r1,q1⟩=>hc pins s1 Y H1 vs us Q I1 r1 q1) he hpl
theorem oH (hc:dU X (.type T) r) (hg:Gl X x) (hm:X.mg x=none) (hv:bootBuiltins x=some (.type T)) (ha:PA X (e::es) t) (hn:x≠"__name__":=by decide) (hdb:(x==("__debug__":Str))=false:=by decide)
  (he:starEach (e::es) X.env=(false,eval e X.env)::starEach es X.env:=by rfl) (hpl:(backTo pos (starEach es X.env)).any (·.1)=false:=by rfl):PE X (.Call (.Name x p) (e::es) [] pos) (tCB r t):=by
 intro pins s Y H Q I h
 refine wpAny_Call_Name_kw (gk I hg hm hv ?_ hn hdb)
 exact PyProof.Rows.callWith_type1 (thn (ha pos pins s Y H _ I h) λus s1 ⟨vs,H1,I1,r1,q1⟩=>hc pins s1 Y H1 vs us Q I1 r1 q1) he hpl
end
end L2
namespace HT
open PySem PyProof.Rows
def lexLt:List Int->List Int->Bool
 |[],[]=>false
 |[],_::_=>true
 |_::_,[]=>false
 |x::xs,y::ys=>if x=y then lexLt xs ys else decide (x<y)
theorem lexLt_cons (x y:Int) (xs ys:List Int):lexLt (x::xs) (y::ys)=if x=y then lexLt xs ys else decide (x<y):=rfl
theorem nX:lexLt [] []=false:=rfl
theorem mB (y:Int) (ys:List Int):lexLt [] (y::ys)=true:=rfl
theorem mC (x:Int) (xs:List Int):lexLt (x::xs) []=false:=rfl
theorem w9 (A:Around) (s:Shared) (a:Int) (t:Tok) (c:Int) (u:Tok):∃e,SeqAt.EqAt A s (.int a t) (.int c u) e/\(e=true↔a=c):=
 ⟨(a==c),SeqAt.EqAt.int_int a t c u,by simp⟩
theorem xa (A:Around) (s:Shared) (a:Int) (t:Tok) (c:Int) (u:Tok) (prog:Program) (w:World) (E:Value->Shared->Prop) (Q:Value->Shared->Prop) (h:Q (.bool (decide (a<c))) s):
  wpAny (model prog w) A (richCompare .Lt (.int a t) (.int c u)) Q E s:=
 (PyProof.Rows.lt_int h:wpAny (model prog w) A (compareOp .Lt (.int a t) (.int c u)) Q E s)
section
open PySem.SeqAt
open PySem.AutoSeq1 (wpAny_loadPart')
open PySem.MeetsSeq PySem.MeetsSeq2 PySem.MeetsSeq3
theorem nY (l b:Addr) (items items2:Array Value) (n n2:Nat) (dd dd2:Option Addr) (sl sl2:Array (Option Value)) (ns ms:List Int) (hi:IntsAre items.toList ns) (hj:IntsAre items2.toList ms):
  Meets (Builtin.«tuple.__lt__» ⟨[.ref l,.ref b],[]⟩)
   (λ_ R s=>s.heap.get? l=some {cls:=.type "tuple",dict:=dd,data:=.seq items n,slots:=sl}/\s.heap.get? b=some {cls:=.type "tuple",dict:=dd2,data:=.seq items2 n2,slots:=sl2}/\
    R (.ok (.ret (.bool (lexLt ns ms)))) s):=
 .of_wp λprog w A R s h=>by
  obtain⟨hp,g,d,tk,os⟩:=s;obtain⟨hl,hb,h⟩:=h;have f2:=AutoSeq1.sub_tuple_tuple;have z1:items.size=ns.length:=by rw[<-hi.length];simp
  have z2:items2.size=ms.length:=by rw[<-hj.length];simp
  wp_walk using wpAny_loadPart' hl,wpAny_loadPart' hb,wpAny_forIn_list _ (λrest b s'=>b.1=none/\s'=⟨hp,g,d,tk,os⟩/\∃ (vs ws:List Value) (ns' ms':List Int),rest=vs.zip ws/\
   IntsAre vs ns'/\IntsAre ws ms'/\ns'.length+items2.size=ms'.length+items.size/\R (.ok (.ret (.bool (lexLt ns' ms')))) ⟨hp,g,d,tk,os⟩) _
  case turn=>
   rintro⟨y,x⟩ rest b s' ⟨hb',rfl,vs,ws,ns',ms',hz,hvi,hwi,hlen,hR⟩;cases hvi with
   |nil=>rw[List.zip_nil_left]at hz;cases hz
   |cons a t hvi'=>
    cases hwi with
    |nil=>rw[List.zip_nil_right]at hz;cases hz
    |cons c u hwi'=>
     rw[List.zip_cons_cons]at hz;injection hz with hyx hrest;injection hyx with hy hx;subst hy hx;rw[lexLt_cons]at hR;simp only[length_cons]at hlen;obtain⟨e,he,hiff⟩:=w9 A.in1 ⟨hp,g,d,tk,os⟩ a t c u;refine wpAny_bind (he prog w _ _ ?_);cases e with
     |true=>
      rw[if_pos (hiff.mp rfl)]at hR;wp_walk;exact⟨rfl,rfl,_,_,_,_,hrest,hvi',hwi',by omega,hR⟩
     |false=>
      rw[if_neg (λq=>absurd (hiff.mpr q) Bool.false_ne_true)]at hR;have hri:=xa A.in1 ⟨hp,g,d,tk,os⟩ a t c u prog w;wp_walk using hri;exact⟨_,rfl,by simpa using hR⟩
  case fin=>
   rintro⟨b1,b2⟩ s' ⟨hb',rfl,vs,ws,ns',ms',hz,hvi,hwi,hlen,hR⟩;simp only at hb';subst hb';have hv:lexLt ns' ms'=decide (items.size<items2.size):=by
    cases hvi with
    |nil=>
     cases hwi with
     |nil=>
      simp only[List.length_nil]at hlen;rw[nX];exact(decide_eq_false (by omega)).symm
     |cons c u hw=>
      simp only[List.length_nil,length_cons]at hlen;rw[mB];exact(decide_eq_true (by omega)).symm
    |cons a t hv=>
     cases hwi with
     |nil=>
      simp only[List.length_nil,length_cons]at hlen;rw[mC];exact(decide_eq_false (by omega)).symm
     |cons c u hw=>
      rw[List.zip_cons_cons]at hz;cases hz
   rw[hv]at hR;wp_walk;exact⟨_,rfl,by simpa [Builtin.Tuple.tupleCompareSizes] using hR⟩
  case h=>
   exact⟨rfl,rfl,items.toList,items2.toList,ns,ms,rfl,hi,hj,by omega,h⟩
end
section
variable {prog:Program} {w:World} {A:Around} {E:Value->Shared->Prop} {s:Shared}
theorem lt_tupInts (hl:IsTup s.heap l items) (hb:IsTup s.heap b items2) (hi:IntsAre items.toList ns) (hj:IntsAre items2.toList ms) (hu:A.units<cLine) (h:Q (.bool (lexLt ns ms)) s):wpAny (model prog w) A (compareOp .Lt (.ref l) (.ref b)) Q E s:=by
 obtain⟨⟨cls,dd,data,sl⟩,ho,hc,n,hd⟩:=id hl;obtain⟨⟨cls2,dd2,data2,sl2⟩,ho2,hc2,n2,hd2⟩:=id hb;simp only at hc hd hc2 hd2;subst hc hd hc2 hd2;exact richCompare_meets_room (op:=.Lt) ⟨_,ho,rfl⟩ ⟨_,ho2,rfl⟩ PySem.F.slot_tuple_lt PySem.F.entry_tuple_lt (PySem.F.args_tuple_lt_2 _ _) (nY l b items items2 n n2 dd dd2 sl sl2 ns ms hi hj)
  ⟨ho,ho2,show Value.bool (lexLt ns ms)≠Value.notImplemented/\Q (.bool (lexLt ns ms)) s from⟨(λx=>nomatch x),h⟩⟩ hu
theorem cat_tup (ht:IsTup s.heap t vs.toArray) (hb:IsTup s.heap b ws.toArray) (hv:vs≠[]) (h1:ws=[]->Q (.ref t) s) (h2:ws≠[]->Q (.ref s.heap.objs.size) {s with heap:=s.heap.push {cls:=.type "tuple",data:=.seq (vs++ws).toArray}}) (hsz:vs.length+ws.length<=sizeLine):wpAny (model prog w) A (binaryOp .Add (.ref t) (.ref b)) Q E s:=by
 obtain⟨⟨cls,dd,data,sl⟩,ho,hc,n,hd⟩:=id ht;obtain⟨⟨cls2,dd2,data2,sl2⟩,ho2,hc2,n2,hd2⟩:=id hb;simp only at hc hd hc2 hd2;subst hc hd hc2 hd2;have e:vs.toArray++ws.toArray=(vs++ws).toArray:=by simp
 by_cases hw:ws=[]
 ·exact concat_meets ⟨_,ho,rfl⟩ ⟨_,ho2,rfl⟩ noFill_tuple_add seq_tuple_add PySem.F.slot_tuple_add PySem.F.entry_tuple_add (PySem.F.args_tuple_add_2 _ _)
   (tuple_addW1 t b vs.toArray ws.toArray n n2 dd dd2 sl sl2 (by simpa using hv) (by simp[hw])) ⟨ho,ho2,h1 hw⟩
 ·refine concat_meets ⟨_,ho,rfl⟩ ⟨_,ho2,rfl⟩ noFill_tuple_add seq_tuple_add PySem.F.slot_tuple_add PySem.F.entry_tuple_add (PySem.F.args_tuple_add_2 _ _)
   (tuple_addW2 t b vs.toArray ws.toArray n n2 dd dd2 sl sl2 (by simpa using hv) (by simpa using hw) (by rw[size_toArray,size_toArray];exact hsz)) ⟨ho,ho2,?_⟩
  rw[e];exact h2 hw
end
end HT
namespace L2
open PySem PySem.Spec PyProof.Rows
abbrev TO:=St->Hp->(Option Int->Hp->Prop)->Prop
def PO (X:Cx) (e:Option Expr) (t:TO):Prop:=
 ∀ (pins:List (Addr×Obj)) (s:Shared) (Y:St) (H:Hp) (Q:Option Int->Hp->Prop),Inv X pins Y H s->t Y H Q->
  wpAny (model X.prog X.w) X.A (evalPart e X.env) (λu s'=>∃o H',Inv X pins Y H' s'/\IsPart u o/\Q o H') X.xe s
def AO:TO:=λ_ H Q=>Q none H
def GQ (t:TE):TO:=λY H Q=>t Y H λx H1=>∃i,x=.int i/\Q (some i) H1
theorem mD:∀ {us:List Value},Vals (ns.map V.int) us->IntsAre us ns:=by
 induction ns with
 |nil=>intro us r;rw[List.map_nil]at r;cases r;exact .nil
 |cons n ns ih=>
  intro us r;rw[List.map_cons]at r;cases r with
  |cons r1 r2=>
   obtain⟨t,e⟩:=r1;subst e;exact .cons n t (ih r2)
section
variable {X:Cx} {e:Expr} {te:TE} {lo hi:Option Expr} {tl th:TO} {pos p2:Pos}
theorem po_none:PO X none AO:=by
 intro pins s Y H Q I h;rw[evalPart_none];exact wpAny_pure ⟨none,H,I,.none,h⟩
theorem AQ (h:PE X e te):PO X (some e) (GQ te):=by
 intro pins s Y H Q I hw;rw[evalPart_some];refine thn (h pins s Y H _ I hw) λu s1 ⟨x,H1,I1,r1,q1⟩=>?_;obtain⟨i,rfl,q⟩:=q1;obtain⟨t,rfl⟩:=r1;exact⟨some i,H1,I1,.int i t,q⟩
def GR (K:Frag):R2:=λx y H Q=>∃a b ns ms,x=.ref a/\y=.ref b/\SqT K H a (ns.map V.int)/\SqT K H b (ms.map V.int)/\Q (.bl (HT.lexLt ns ms)) H
theorem xb (hu:X.A.units<cLine):OpR X (compareOp .Lt) (GR X.K):=by
 intro pins s Y H x y v u Q I rx ry h;obtain⟨a,b,ns,ms,rfl,rfl,ha,hb,q⟩:=h;cases rx;cases ry;obtain⟨its,r1,p1,_⟩:=I.tuple ha;obtain⟨its2,r2,p2,_⟩:=I.tuple hb;have i1:IntsAre its.toArray.toList ns:=mD r1;have i2:IntsAre its2.toArray.toList ms:=mD r2;exact HT.lt_tupInts p1 p2 i1 i2 hu ⟨.bl (HT.lexLt ns ms),H,I,rfl,q⟩
def CU (K:Frag):R2:=λx y H Q=>∃a b xs ys,x=.ref a/\y=.ref b/\SqT K H a xs/\SqT K H b ys/\xs≠[]/\xs.length+ys.length<=sizeLine/\
 (ys=[]->Q (.ref a) H)/\(ys≠[]->∀p,H p=none->Q (.ref p) (upd H p (.tup (xs++ys))))
theorem Vals.nil_iff (r:Vals xs us):us=[]↔xs=[]:=by
 cases r with
 |nil=>simp
 |cons _ _=>simp
theorem AR:OpR X (binaryOp .Add) (CU X.K):=by
 intro pins s Y H x y v u Q I rx ry h;obtain⟨a,b,xs,ys,rfl,rfl,ha,hb,hx,hz,q1,q2⟩:=h;cases rx;cases ry;obtain⟨its,r1,p1,_⟩:=I.tuple ha;obtain⟨its2,r2,p2,_⟩:=I.tuple hb;refine HT.cat_tup p1 p2 (λz=>hx (r1.nil_iff.mp z)) (λz=>⟨.ref a,H,I,rfl,q1 (r2.nil_iff.mp z)⟩) (λz=>?_) (by rw[<-r1.length,<-r2.length];exact hz);refine⟨.ref s.heap.objs.size,_,I.laid (t':=s.toks) (o:=.tup (xs++ys)) (λb ob q=>Heap.get?_push_of_some _ q) (le_refl _) ?_,rfl,q2 (λw=>z (r2.nil_iff.mpr w)) _ (I.hok.fresh (le_refl _))⟩;exact⟨by rw[length_append];exact hz,_,r1.append r2,IsTup.new _ _⟩
end
def ixN (n:Nat) (i:Int):Option Nat:=if 0<=i then(if i<n then some i.toNat else none)else if -(n:Int)<=i then some (i+n).toNat else none
def atI {α:Type} (xs:List α) (i:Int):Option α:=(ixN xs.length i).bind λj=>xs[j]?
theorem uJ (h:ixN n i=some j):seqIndex? i n=some j/\j<n/\ -(n:Int)<=i/\i<n:=by
 unfold ixN at h;by_cases h0:0<=i
 ·rw[if_pos h0]at h;by_cases h1:i<n
  ·rw[if_pos h1]at h;have e:i.toNat=j:=Option.some.inj h;exact⟨by rw[seqIndex_of h0 h1,e],by omega,by omega,h1⟩
  ·rw[if_neg h1]at h;cases h
 ·rw[if_neg h0]at h;by_cases h1:-(n:Int)<=i
  ·rw[if_pos h1]at h;have e:(i+n).toNat=j:=Option.some.inj h;exact⟨by rw[seqIndex_neg (by omega) h1,e],by omega,h1,by omega⟩
  ·rw[if_neg h1]at h;cases h
theorem pJ {v:α} (h:atI xs i=some v):∃j,seqIndex? i xs.length=some j/\xs[j]?=some v/\j<xs.length/\ -(xs.length:Int)<=i/\i<xs.length:=by
 unfold atI at h;cases e:ixN xs.length i with
 |none=>rw[e]at h;cases h
 |some j=>
  rw[e]at h;obtain⟨h1,h2,h3,h4⟩:=uJ e;exact⟨j,h1,h,h2,h3,h4⟩
def fI (b:Expr):Prop:=∀o i,subscripted b false o i=operate [o,i] (getItem o i)
def IxR (X:Cx) (r:R2):Prop:=
 ∀ (value slice:Expr) (pins:List (Addr×Obj)) (s:Shared) (Y:St) (H:Hp) (x y:V) (v u:Value) (Q:VK),Inv X pins Y H s->RelV x v->RelV y u->r x y H Q->
  subscripted slice false v u=operate [v,u] (getItem v u)->wpAny (model X.prog X.w) X.A (subscriptTail value slice v u) (EP X pins Y Q) X.xe s
def MtR (X:Cx) (id:String) (r:V->List V->Hp->VK->Prop):Prop:=
 ∀ (pins:List (Addr×Obj)) (s:Shared) (Y:St) (H:Hp) (x:V) (xs:List V) (v:Value) (us:List Value) (Q:VK),Inv X pins Y H s->RelV x v->Vals xs us->r x xs H Q->
  wpAny (model X.prog X.w) X.A (call (.builtin id) (v::us)) (EP X pins Y Q) X.xe s
section
variable {X:Cx} {a b:Expr} {ta tb:TE} {pos:Pos}
theorem IxR.or (h:IxR X r) (h':IxR X r'):IxR X (λx y H Q=>r x y H Q\/r' x y H Q):=by
 intro value slice pins s Y H x y v u Q I rx ry q hs;rcases q with q|q
 ·exact h value slice pins s Y H x y v u Q I rx ry q hs
 ·exact h' value slice pins s Y H x y v u Q I rx ry q hs
theorem xf (hr:IxR X r) (ha:PE X a ta) (hb:PE X b tb) (hs:fI b):PE X (.Subscript a b pos) (tOp r ta tb):=by
 intro pins s Y H Q I h;exact Subscript_ (DO ha hb I h λv u s2 x y H2 I2 rx ry q=>hr a b pins s2 Y H2 x y v u Q I2 rx ry q (hs _ _))
def GS (K:Frag):R2:=λx y H Q=>∃p xs i v,x=.ref p/\y=.int i/\SqL K H p xs/\atI xs i=some v/\Q v H
def GU (K:Frag):R2:=λx y H Q=>∃p xs i v,x=.ref p/\y=.int i/\SqT K H p xs/\atI xs i=some v/\Q v H
def GV:R2:=λx y H Q=>∃z i c,x=.str z/\y=.int i/\z.length<=sizeLine/\atI z.cps.toList i=some c/\Q (.str ⟨#[c]⟩) H
theorem ix_list:IxR X (GS X.K):=by
 intro value slice pins s Y H x y v u Q I rx ry h hs;obtain⟨p,xs,i,z,rfl,rfl,hq,he,q⟩:=h;cases rx;obtain⟨t,rfl⟩:=ry;obtain⟨its,r,pl,hz⟩:=I.list hq;obtain⟨j,h1,h2,h3,h4,h5⟩:=pJ he;obtain⟨w,ew,rw'⟩:=r.get h2;have hl:=r.length;have hn:=jM;have fin:EP X pins Y Q w s:=⟨z,H,I,rw',q⟩;by_cases h0:0<=i
 ·have hj:i.toNat=j:=by
   rw[seqIndex_of h0 h5]at h1;exact Option.some.inj h1
  exact item_listR pl.isList h0 (by omega) (by rw[hj];simpa using ew) fin hs
 ·have hj:(i+(its.toArray.size:Int)).toNat=j:=by
   rw[seqIndex_neg (by omega) h4]at h1;rw[size_toArray,<-hl];exact Option.some.inj h1
  exact subscriptTail_builtinR (x:=w) pl.isList.typeIs slot_list_getitem.lookup
   (wpAny_getItem_list_neg (Q:=λr s'=>r=w/\EP X pins Y Q r s') pl.isList (by omega) (by rw[size_toArray]<;>omega) (by omega) (by rw[hj];simpa using ew) ⟨rfl,fin⟩) hs
theorem ix_tup:IxR X (GU X.K):=by
 intro value slice pins s Y H x y v u Q I rx ry h hs;obtain⟨p,xs,i,z,rfl,rfl,hq,he,q⟩:=h;cases rx;obtain⟨t,rfl⟩:=ry;obtain⟨its,r,pl,hz⟩:=I.tuple hq;obtain⟨j,h1,h2,h3,h4,h5⟩:=pJ he;obtain⟨w,ew,rw'⟩:=r.get h2;have hl:=r.length;have hn:=jM;have fin:EP X pins Y Q w s:=⟨z,H,I,rw',q⟩;exact subscriptTail_builtinR (x:=w) pl.typeIs slot_tuple_getitem.lookup
  (getItem_tuple (j:=j) (Q:=λr s'=>r=w/\EP X pins Y Q r s') pl (by omega) (by omega) (by rw[size_toArray,<-hl];exact h1) (by simpa using ew) ⟨rfl,fin⟩) hs
theorem DW:IxR X GV:=by
 intro value slice pins s Y H x y v u Q I rx ry h hs;obtain⟨z,i,c,rfl,rfl,hz,he,q⟩:=h;obtain⟨t,rfl⟩:=rx;obtain⟨t',rfl⟩:=ry;obtain⟨j,h1,h2,h3,h4,h5⟩:=pJ he;have hl:z.cps.toList.length=z.length:=by simp[Str.length]
 rw[hl]at h1 h4 h5;have hn:=jM;exact tail_any (typeIs_str s z t) slot_str_getitem.lookup (getItem_str (c:=c) (by
  have e1:decide (i< -(2^63:Int))=false:=decide_eq_false (by omega);have e2:decide (i≥2^63)=false:=decide_eq_false (by omega);rw[e1,e2,Bool.or_false]) (by rw[h1];simpa using h2) ⟨.str ⟨#[c]⟩,H,I.tok _,⟨_,rfl⟩,q⟩) hs
def rIx (K:Frag):R2:=λx y H Q=>GS K x y H Q\/GU K x y H Q\/GV x y H Q
theorem ix_seq:IxR X (rIx X.K):=ix_list.or (ix_tup.or DW)
theorem sW (its:List Value) (n j:Nat) (u:Value):Obj.mapSeq (·.setIfInBounds j u) {cls:=.type "list",data:=.seq its.toArray n}={cls:=.type "list",data:=.seq (its.set j u).toArray n}:=by
 simp[Obj.mapSeq]
theorem Inv.lst {Y:St} (I:Inv X pins Y H s) (h:H p=some (.lst xs)):
  ∃ (its:List Value) (n:Nat),Vals xs its/\s.heap.get? p=some {cls:=.type "list",data:=.seq its.toArray n}/\xs.length<=sizeLine:=by
 obtain⟨z,its,n,r,e⟩:=I.hok p _ h
 exact⟨its,n,r,e,z⟩
theorem Inv.lstUpd {Y:St} {its its':List Value} (I:Inv X pins Y H s) (h:H p=some (.lst xs)) (ho:s.heap.get? p=some {cls:=.type "list",data:=.seq its.toArray n}) (hf:f {cls:=.type "list",data:=.seq its.toArray n}={cls:=.type "list",data:=.seq its'.toArray n'}) (r:Vals ys its') (hz:ys.length<=sizeLine) (t:Nat):
  Inv X pins Y (upd H p (.lst ys)) {s with heap:=s.heap.update p f,toks:=t}:=by
 have e:(s.heap.update p f).get? p=some {cls:=.type "list",data:=.seq its'.toArray n'}:=by
  rw[Heap.get?_update_self f ho (by rw[hf]<;>rfl),hf]
 refine I.write (x:=p) (e:=p) (by rw[h];trivial) (.inl rfl) (λb u hb q=>(Heap.get?_update_other _ _ (Ne.symm hb)).trans q) ⟨_,e⟩ ?_
 exact⟨hz,its',n',r,e⟩
def GW:V->V->V->Hp->(Hp->Prop)->Prop:=λo i v H Q=>∃p xs k j,o=.ref p/\i=.int k/\H p=some (.lst xs)/\ixN xs.length k=some j/\Q (upd H p (.lst (xs.set j v)))
theorem xg:DN X GW:=by
 intro pins s Y H o i v ov iv u Q I ro ri rv h;obtain⟨p,xs,k,j,rfl,rfl,hp,hj,q⟩:=h;cases ro;obtain⟨t,rfl⟩:=ri;obtain⟨its,n,r,ho,hz⟩:=I.lst hp;obtain⟨h1,h2,h3,h4⟩:=uJ hj;have hl:=r.length;have hn:=jM;have I':Inv X pins Y (upd H p (.lst (xs.set j v))) {s with heap:=s.heap.update p (Obj.mapSeq (·.setIfInBounds j u))}:=
  I.lstUpd hp ho (sW its n j u) (r.set rv j) (by rw[List.length_set];exact hz) s.toks
 by_cases h0:0<=k
 ·have hk:k.toNat=j:=by
   rw[seqIndex_of h0 h4]at h1;exact Option.some.inj h1
  exact PySem.W.ki_setAt ho h0 (by omega) (by rw[size_toArray,<-hl];exact h4) (by rw[hk];exact⟨_,I',q⟩)
 ·have hk:(k+(its.toArray.size:Int)).toNat=j:=by
   rw[seqIndex_neg (by omega) h3]at h1;rw[size_toArray,<-hl];exact Option.some.inj h1
  exact PySem.W.ki_setBack ho (by omega) (by rw[size_toArray,<-hl];exact h3) (by omega) (by rw[hk];exact⟨_,I',q⟩)
def gu:V->Bool
 |.non=>true
 |.bl _=>true
 |.int _=>true
 |.str _=>true
 |_=>false
def eqV:V->V->Bool
 |.non,.non=>true
 |.bl a,.bl b=>a==b
 |.bl a,.int b=>(if a then 1 else 0)==b
 |.int a,.bl b=>a==(if b then 1 else 0)
 |.int a,.int b=>a==b
 |.str a,.str b=>a==b
 |_,_=>false
theorem xh (ry:RelV y u) (rx:RelV x v) (fy:gu y=true) (fx:gu x=true):SeqAt.EqAt A s u v (eqV y x):=by
 cases y with
 |non=>
  cases ry;cases x with
  |non=>cases rx;exact SeqAt.EqAt.same _
  |bl b=>cases rx;exact SeqAt.EqAt.none_bool b
  |int b=>obtain⟨t,rfl⟩:=rx;exact SeqAt.EqAt.none_int b t
  |str b=>obtain⟨t,rfl⟩:=rx;exact SeqAt.EqAt.none_str b t
  |_=>exact absurd (show false=true from fx) Bool.false_ne_true
 |bl a=>
  cases ry;cases x with
  |non=>cases rx;exact SeqAt.EqAt.bool_none a
  |bl b=>cases rx;exact SeqAt.EqAt.bool_bool a b
  |int b=>obtain⟨t,rfl⟩:=rx;exact SeqAt.EqAt.bool_int a b t
  |str b=>obtain⟨t,rfl⟩:=rx;exact SeqAt.EqAt.bool_str a b t
  |_=>exact absurd (show false=true from fx) Bool.false_ne_true
 |int a=>
  obtain⟨t',rfl⟩:=ry;cases x with
  |non=>cases rx;exact SeqAt.EqAt.int_none a t'
  |bl b=>cases rx;exact SeqAt.EqAt.int_bool a t' b
  |int b=>obtain⟨t,rfl⟩:=rx;exact SeqAt.EqAt.int_int a t' b t
  |str b=>obtain⟨t,rfl⟩:=rx;exact SeqAt.EqAt.int_str a t' b t
  |_=>exact absurd (show false=true from fx) Bool.false_ne_true
 |str a=>
  obtain⟨t',rfl⟩:=ry;cases x with
  |non=>cases rx;exact SeqAt.EqAt.str_none a t'
  |bl b=>cases rx;exact SeqAt.EqAt.str_bool a t' b
  |int b=>obtain⟨t,rfl⟩:=rx;exact SeqAt.EqAt.str_int a t' b t
  |str b=>obtain⟨t,rfl⟩:=rx;exact SeqAt.EqAt.str_str a t' b t
  |_=>exact absurd (show false=true from fx) Bool.false_ne_true
 |_=>exact absurd (show false=true from fy) Bool.false_ne_true
def eqU (x:V) (u:Value):Bool:=match u with
 |.none=>eqV .non x
 |.bool b=>eqV (.bl b) x
 |.int i _=>eqV (.int i) x
 |.str z _=>eqV (.str z) x
 |_=>false
theorem xi (r:RelV y u) (f:gu y=true):eqU x u=eqV y x:=by
 cases y with
 |non=>cases r;rfl
 |bl b=>cases r;rfl
 |int i=>obtain⟨t,rfl⟩:=r;rfl
 |str z=>obtain⟨t,rfl⟩:=r;rfl
 |_=>exact absurd (show false=true from f) Bool.false_ne_true
theorem jc:∀ {xs:List V} {us:List Value},Vals xs us->xs.all gu=true->us.any (eqU x)=xs.any λy=>eqV y x
 |_,_,.nil,_=>rfl
 |y::xs,u::us,.cons r t,f=>by
  rw[List.all_cons,and_eq_true]at f;rw[List.any_cons,List.any_cons,xi r f.1,jc t f.2]
theorem gv (rx:RelV x v) (fx:gu x=true):∀ {xs:List V} {us:List Value},Vals xs us->xs.all gu=true->∀u∈us,SeqAt.EqAt A s u v (eqU x u)
 |_,_,.nil,_=>λu hu=>by cases hu
 |y::xs,u::us,.cons r t,f=>λu' hu=>by
  rw[List.all_cons,and_eq_true]at f;rcases mem_cons.mp hu with rfl|hu
  ·rw[xi r f.1];exact xh r rx f.1 fx
  ·exact gv rx fx t f.2 u' hu
def inV (x:V) (xs:List V):Bool:=xs.any λy=>eqV y x
def rIn (K:Frag) (neg:Bool):R2:=λx y H Q=>∃p xs,y=.ref p/\(SqL K H p xs\/SqT K H p xs)/\gu x=true/\xs.all gu=true/\Q (.bl (if neg then !inV x xs else inV x xs)) H
theorem op_in_seq:OpR X (compareOp .In) (rIn X.K false):=by
 intro pins s Y H x y v u Q I rx ry h;obtain⟨p,xs,rfl,hq,fx,fs,q⟩:=h;cases ry;rcases hq with hq|hq
 ·obtain⟨its,r,pl,hz⟩:=I.list hq;refine SeqAt.in_listAt (eqU x) pl.isList (λw hw=>gv rx fx r fs w (by simpa using hw)) ⟨.bl _,H,I,rfl,?_⟩;rw[show its.toArray.any (eqU x)=its.any (eqU x)by simp,jc r fs];exact q
 ·obtain⟨its,r,pl,hz⟩:=I.tuple hq;refine SeqAt.in_tupleAt (eqU x) pl (λw hw=>gv rx fx r fs w (by simpa using hw)) ⟨.bl _,H,I,rfl,?_⟩;rw[show its.toArray.any (eqU x)=its.any (eqU x)by simp,jc r fs];exact q
theorem op_notIn_seq:OpR X (compareOp .NotIn) (rIn X.K true):=by
 intro pins s Y H x y v u Q I rx ry h;obtain⟨p,xs,rfl,hq,fx,fs,q⟩:=h;cases ry;rcases hq with hq|hq
 ·obtain⟨its,r,pl,hz⟩:=I.list hq;refine SeqAt.notIn_listAt (eqU x) pl.isList (λw hw=>gv rx fx r fs w (by simpa using hw)) ⟨.bl _,H,I,rfl,?_⟩;rw[show its.toArray.any (eqU x)=its.any (eqU x)by simp,jc r fs];exact q
 ·obtain⟨its,r,pl,hz⟩:=I.tuple hq;refine SeqAt.notIn_tupleAt (eqU x) pl (λw hw=>gv rx fx r fs w (by simpa using hw)) ⟨.bl _,H,I,rfl,?_⟩;rw[show its.toArray.any (eqU x)=its.any (eqU x)by simp,jc r fs];exact q
theorem pK:dU X (.builtin "len") (λxs H Q=>∃p ys,xs=[.ref p]/\(SqL X.K H p ys\/SqT X.K H p ys)/\Q (.int ys.length) H):=by
 intro pins s Y H xs us Q I r h;obtain⟨p,ys,rfl,hq,q⟩:=h;obtain⟨u,rfl,rx⟩:=gp r;cases rx;have hn:=jM;rcases hq with hq|hq
 ·obtain⟨its,r',pl,hz⟩:=I.list hq;have hlen:=r'.length;exact Calls.call_len_list pl.isList (by simp only[size_toArray]<;>omega) ⟨.int ys.length,H,I.tok _,⟨s.toks+1,by rw[size_toArray,hlen]⟩,q⟩
 ·obtain⟨its,r',pl,hz⟩:=I.tuple hq;have hlen:=r'.length;exact len_tuple pl (by simp only[size_toArray]<;>omega) ⟨.int ys.length,H,I.tok _,⟨s.toks+1,by rw[size_toArray,hlen]⟩,q⟩
theorem pL:dU X (.type "list") (λxs H Q=>∃p ys,xs=[.ref p]/\(SqL X.K H p ys\/SqT X.K H p ys)/\∀l,H l=none->Q (.ref l) (upd H l (.lst ys))):=by
 intro pins s Y H xs us Q I r h;obtain⟨p,ys,rfl,hq,q⟩:=h;obtain⟨u,rfl,rx⟩:=gp r;cases rx;have fin:∀ (its:List Value),Vals ys its->ys.length<=sizeLine->∀ (h':Heap) (c':Nat),(∀b o',s.heap.get? b=some o'->h'.get? b=some o')->
   h'.get? s.heap.objs.size=some {cls:=.type "list",dict:=none,data:=.seq its.toArray c',slots:=#[]}->EP X pins Y Q (.ref s.heap.objs.size) {s with heap:=h'}:=λits r' hz h' c' kp e=>
  ⟨.ref s.heap.objs.size,_,I.laid (t':=s.toks) kp (le_refl _) (show ObjOk X.prog X.w _ h' _ (.lst ys)from⟨hz,its,c',r',e⟩),rfl,q _ (I.hok.fresh (le_refl _))⟩
 rcases hq with hq|hq
 ·obtain⟨its,r',pl,hz⟩:=I.list hq;have hlen:=r'.length;obtain⟨o,ho,hc,n,hd⟩:=pl.isList;exact call_list_seq p (.inl rfl) ho hc hd (λh' c' kp e=>fin its r' hz h' c' kp e) (by simp only[size_toArray]<;>omega)
 ·obtain⟨its,r',pl,hz⟩:=I.tuple hq;have hlen:=r'.length;obtain⟨o,ho,hc,n,hd⟩:=pl;exact call_list_seq p (.inr rfl) ho hc hd (λh' c' kp e=>fin its r' hz h' c' kp e) (by simp only[size_toArray]<;>omega)
theorem call_tuple_of:dU X (.type "tuple") (λxs H Q=>∃p ys,xs=[.ref p]/\((SqL X.K H p ys/\∀l,H l=none->Q (.ref l) (upd H l (.tup ys)))\/(SqT X.K H p ys/\Q (.ref p) H))):=by
 intro pins s Y H xs us Q I r h;obtain⟨p,ys,rfl,h⟩:=h;obtain⟨u,rfl,rx⟩:=gp r;cases rx;rcases h with⟨hq,q⟩|⟨hq,q⟩
 ·obtain⟨its,r',pl,hz⟩:=I.list hq;have hlen:=r'.length;refine call_tuple_list pl.isList (λh' kp=>?_) (by simp only[size_toArray]<;>omega);have I1:Inv X pins Y H {s with heap:=h'}:=I.kept (t':=s.toks) kp;have I2:Inv X pins Y (upd H h'.objs.size (.tup ys)) {s with heap:=h'.push {cls:=.type "tuple",data:=.seq its.toArray}}:=
   I1.laid (t':=s.toks) (λb o e=>Heap.get?_push_of_some _ e) (le_refl _) (show ObjOk X.prog X.w _ _ _ (.tup ys)from⟨hz,its,r',IsTup.new _ _⟩)
  exact⟨.ref h'.objs.size,_,I2,rfl,q _ (I1.hok.fresh (le_refl _))⟩
 ·obtain⟨its,r',pl,hz⟩:=I.tuple hq;exact call_tuple_same pl ⟨.ref p,H,I,rfl,q⟩
def tyV (K:Frag) (T:String) (x:V) (H:Hp):Prop:=match x with
 |.str _=>T="str"
 |.int _=>T="int"
 |.ref p=>(T="list"/\∃xs,SqL K H p xs)\/(T="tuple"/\∃o,K.lookup p=some o/\o.cls=.type "tuple"/\o.dict=none)\/
  (T="dict"/\((∃kvs,Rd H p (.dK kvs))\/∃kvs,H p=some (.dT kvs)))\/(T="set"/\∃S n,H p=some (.set S n))
 |_=>False
theorem xj {Y:St} (I:Inv X pins Y H s) (r:RelV x v) (ty:tyV X.K T x H):
  s.TypeIs v T/\∀a,v=.ref a->∃ob,s.heap.get? a=some ob/\ob.dict=none:=by
 cases x with
 |str z=>
  obtain⟨t,rfl⟩:=r;cases(show T="str"from ty);exact⟨typeIs_str s z t,λ_ e=>nomatch e⟩
 |int i=>
  obtain⟨t,rfl⟩:=r;cases(show T="int"from ty);exact⟨typeIs_int s i t,λ_ e=>nomatch e⟩
 |ref p=>
  cases r;rcases ty with⟨rfl,xs,hq⟩|⟨rfl,o,hk,hc,hd⟩|⟨rfl,hk⟩|⟨rfl,S,n,hk⟩
  ·obtain⟨its,_,pl,_⟩:=I.list hq;refine⟨pl.isList.typeIs,λa e=>?_⟩;cases e;obtain⟨o,n,e,c,hd,_⟩:=pl;exact⟨o,e,hd⟩
  ·refine⟨⟨o,I.kIn p o hk,hc⟩,λa e=>?_⟩;cases e;exact⟨o,I.kIn _ o hk,hd⟩
  ·have z:∃o,s.heap.get? p=some o/\o.ExactDict:=by
    rcases hk with⟨kvs,hk⟩|⟨kvs,hk⟩
    ·obtain⟨_,_,_,_,o,_,_,e,ex,_⟩:=hk.ok I.hok;exact⟨o,e,ex⟩
    ·obtain⟨_,_,_,_,o,_,_,e,ex,_⟩:=I.hok p _ hk;exact⟨o,e,ex⟩
   obtain⟨o,e,ex⟩:=z;refine⟨⟨o,e,ex.1⟩,λa e2=>?_⟩;cases e2;exact⟨o,e,ex.2.1⟩
  ·obtain⟨o,_,_,_,e,ex,_⟩:=I.hok p _ hk;refine⟨⟨o,e,ex.1⟩,λa e2=>?_⟩;cases e2;exact⟨o,e,ex.2.1⟩
 |_=>exact False.elim ty
def Ko (K:Frag) (T:String) (r:V->List V->Hp->VK->Prop) (to:TE):TE:=λY H Q=>to Y H λx H1=>tyV K T x H1/\r x [] H1 Q
def tBM (K:Frag) (T:String) (r:V->List V->Hp->VK->Prop) (to:TE) (t:TA):TE:=λY H Q=>to Y H λx H1=>tyV K T x H1/\t Y H1 λxs H2=>r x xs H2 Q
variable {o e:Expr} {es:List Expr} {to:TE} {t:TA} {name:Str} {apos cpos:Pos} {T id:String} {r:V->List V->Hp->VK->Prop}
theorem DX (pa:PlainAttrs T) (slot:Slot T name id) (hty:typeOf (.builtin id)=pure (.type "method_descriptor")) (hm:MtR X id r) (ho:PE X o to)
  (hbase:attributeBase o name X.env (eval o X.env)=eval o X.env:=by rfl) (hline:(apos.endLine==cpos.line)=true:=by rfl):PE X (.Call (.Attribute o name apos) [] [] cpos) (Ko X.K T r to):=by
 intro pins s Y H Q I h
 refine wpAny_Call_method0_late hbase hline (thn (ho pins s Y H _ I h) λv s1 ⟨x,H1,I1,r1,ty,q1⟩=>?_)
 obtain⟨h1,h2⟩:=xj I1 r1 ty
 exact⟨T,id,pa,slot,hty,h1,h2,Calls.callWith_builtin rfl (PySem.evalArgs_none (hm pins s1 Y H1 x [] v [] Q I1 r1 .nil q1))⟩
theorem oI (pa:PlainAttrs T) (slot:Slot T name id) (hty:typeOf (.builtin id)=pure (.type "method_descriptor")) (hm:MtR X id r) (ho:PE X o to) (ha:PA X (e::es) t)
  (hbase:attributeBase o name X.env (eval o X.env)=eval o X.env:=by rfl)
  (hfew:((backTo cpos (starEach (e::es) X.env)).all (λx=>!x.1)&&(backToKw cpos (keywordEach [] X.env)).all (λx=>x.1.isSome)
   &&decide ((e::es).length+([]:List Keyword).length+(if([]:List Keyword).isEmpty then 0 else 1)<30))=true:=by rfl)
  (hline:(apos.endLine==cpos.line)=true:=by rfl) (hs:starEach (e::es) X.env=(false,eval e X.env)::starEach es X.env:=by rfl) (hplain:(backTo cpos (starEach es X.env)).any (·.1)=false:=by rfl):
  PE X (.Call (.Attribute o name apos) (e::es) [] cpos) (tBM X.K T r to t):=by
 intro pins s Y H Q I h
 refine wpAny_Call_method_late hbase hfew hline rfl (thn (ho pins s Y H _ I h) λv s1 ⟨x,H1,I1,r1,ty,q1⟩=>?_)
 obtain⟨h1,h2⟩:=xj I1 r1 ty
 refine⟨T,id,pa,slot,hty,h1,h2,?_⟩
 have hA:=ha cpos pins s1 Y H1 _ I1 q1
 rw[hs]at hA⊢
 refine Calls.callWith_builtin (by show(false||(backTo cpos (starEach es X.env)).any (·.1))=false;rw[hplain]<;>rfl) (Calls.evalArgs_plain ?_)
 exact thn hA λus s2 ⟨vs,H2,I2,r2,q2⟩=>hm pins s2 Y H2 x vs v us Q I2 r1 r2 q2
end
def MtM (X:Cx) (id:String) (r:V->List V->Hp->VK->Prop):Prop:=
 ∀ (pins:List (Addr×Obj)) (s:Shared) (Y:St) (H:Hp) (x:V) (xs:List V) (v:Value) (us:List Value) (Q:VK),Inv X pins Y H s->RelV x v->Vals xs us->r x xs H Q->
  wpAny (model X.prog X.w) X.A (call (.builtin id) (v::us)) (EP X pins Y Q) X.xe s
theorem Vals.one:∀ {x:V} {us:List Value},Vals [x] us->∃u,us=[u]/\RelV x u
 |_,_,.cons r .nil=>⟨_,rfl,r⟩
theorem Vals.zero:∀ {us:List Value},Vals [] us->us=[]
 |_,.nil=>rfl
theorem Vals.eraseIdx:∀ {xs:List V} {us:List Value} (i:Nat),Vals xs us->Vals (xs.eraseIdx i) (us.eraseIdx i)
 |_,_,_,.nil=>.nil
 |_,_,0,.cons _ t=>t
 |_,_,i+1,.cons r t=>.cons r (Vals.eraseIdx i t)
theorem oJ {α:Type}:∀ (l:List α) (i:Nat),(l.eraseIdx i).length<=l.length
 |[],_=>le_refl _
 |_::_,0=>Nat.le_succ _
 |_::r,i+1=>Nat.succ_le_succ (oJ r i)
section
variable {X:Cx} {pins:List (Addr×Obj)} {Y:St} {H:Hp} {s:Shared} {l b:Addr} {xs ys zs:List V}
theorem Inv.lset {its its':List Value} (I:Inv X pins Y H s) (hH:H l=some (.lst xs)) (e:s.heap.get? l=some {cls:=.type "list",data:=.seq its.toArray n}) (hf:f its.toArray=its'.toArray) (hv:Vals ys its') (hz:ys.length<=sizeLine):
  Inv X pins Y (upd H l (.lst ys)) {s with heap:=s.heap.update l (Obj.mapSeq f),toks:=t'}:=by
 have q:=PySem.IsL.update e f
 rw[hf]at q
 refine I.write (x:=l) (e:=l) (by rw[hH];exact trivial) (.inl rfl) (λb' u hb hu=>(Heap.get?_update_other s.heap (Obj.mapSeq f) (Ne.symm hb)).trans hu) ⟨_,q⟩ ?_
 exact⟨hz,its',_,hv,q⟩
theorem Inv.lnew (I:Inv X pins Y H s) (hv:Vals ys its) (hz:ys.length<=sizeLine):
  Inv X pins Y (upd H s.heap.objs.size (.lst ys)) {s with heap:=s.heap.push {cls:=.type "list",data:=.seq its.toArray},toks:=t'}:=
 I.laid (λ_ _ q=>Heap.get?_push_of_some _ q) (le_refl _) ⟨hz,its,0,hv,Heap.get?_push_size _ rfl⟩
theorem Inv.fresh (I:Inv X pins Y H s):H s.heap.objs.size=none:=I.hok.fresh (le_refl _)
theorem Inv.lstM (I:Inv X pins Y H s) (hH:H l=some (.lst xs)):xs.length<=sizeLine/\∃ (its:List Value) (n:Nat),Vals xs its/\xs.length=its.length/\s.heap.get? l=some {cls:=.type "list",data:=.seq its.toArray n}:=by
 obtain⟨z,its,n,r,e⟩:=I.hok l _ hH;exact⟨z,its,n,r,r.length,e⟩
theorem xk (h:n<=sizeLine):Builtin.List.listTooLong n=false:=by
 unfold Builtin.List.listTooLong;exact decide_eq_false (by omega)
end
section
variable {X:Cx}
def AS:V->List V->Hp->VK->Prop:=λx vs H Q=>∃l xs y,x=.ref l/\vs=[y]/\H l=some (.lst xs)/\xs.length<sizeLine/\Q .non (upd H l (.lst (xs++[y])))
theorem jP:MtM X "list.append" AS:=by
 intro pins s Y H x vs v us Q I rx rv h;obtain⟨l,xs,y,rfl,rfl,hH,hz,q⟩:=h;cases rx;obtain⟨u,rfl,ru⟩:=rv.one;obtain⟨z,its,n,r,hl,e⟩:=I.lstM hH;refine call_meets F.slot_list_append ⟨_,e,rfl⟩ F.entry_list_append (F.args_list_append_2 _ _) (PySem.list_append l its.toArray n u (by rw[size_toArray];omega)) ⟨e,?_⟩;refine⟨.non,_,I.lset (its':=its++[u]) hH e (by simp) (r.append (.cons ru .nil)) ?_,rfl,q⟩;rw[length_append,List.length_singleton];omega
def DY:V->List V->Hp->VK->Prop:=λx vs H Q=>∃l xs i k y,x=.ref l/\vs=[.int i]/\H l=some (.lst xs)/\ -(2^63)<=i/\i<2^63/\seqIndex? i xs.length=some k/\xs[k]?=some y/\Q y (upd H l (.lst (xs.eraseIdx k)))
theorem qR:MtM X "list.pop" DY:=by
 intro pins s Y H x vs v us Q I rx rv h;obtain⟨l,xs,i,k,y,rfl,rfl,hH,h1,h2,hk,hy,q⟩:=h;cases rx;obtain⟨u,rfl,ru⟩:=rv.one;obtain⟨t,rfl⟩:=ru;obtain⟨z,its,n,r,hl,e⟩:=I.lstM hH;obtain⟨w,hw,rw'⟩:=r.get hy;refine call_meets F.slot_list_pop ⟨_,e,rfl⟩ F.entry_list_pop (F.args_list_pop_2 _ _)
  (MeetsSeq.list_pop_at l its.toArray n i t k w (fitsIndex_both h1 h2) (by rw[size_toArray,<-hl];exact hk) (by rw[<-Array.getElem?_toList];exact hw) (by rw[size_toArray];omega)) ⟨e,?_⟩
 refine⟨y,_,I.lset (its':=its.eraseIdx k) hH e ?_ (r.eraseIdx k) ?_,rw',q⟩
 ·show its.toArray.eraseIdxIfInBounds k=(its.eraseIdx k).toArray;rw[List.eraseIdxIfInBounds_toArray]
 ·have:=oJ xs k;omega
end
section
variable {prog:Program} {w:World} {A:Around} {E:Value->Shared->Prop} {s:Shared}
set_option maxRecDepth 100000 in
end
section
variable {X:Cx}
end
end L2
namespace Att
open PySem PySem.W PySem.Calls PyProof.Rows
theorem ll:∀ (ns:List Int) (vs:List Value),WellAll P h vs (ns.map WData.int)->IntsAre vs ns:=by
 intro ns;induction ns with
 |nil=>
  intro vs w;rw[List.map_nil]at w;cases w;exact .nil
 |cons n ns ih=>
  intro vs w;rw[List.map_cons]at w;cases w with
  |cons a b=>
   cases a;exact .cons _ _ (ih _ b)
theorem vW {l:OpenLaw} (hn:l.most=some n) (hpre:l.row.toRowW.claim.pre args=true) (hwl:WellAll P h vals args):
  ∃a vs ns,vals=[Value.ref a]/\args=[WData.list (ns.map WData.int)]/\h.get? a=some {cls:=.type "list",data:=.seq vs.toArray}/\IntsAre vs ns/\ns.length<=n:=by
 have hsh:WShape.hasAll [] args [.list .int]=true:=(pre_splitW hpre).1
 have hc:l.pre.holds [] {args:=args}=true:=(pre_splitW hpre).2
 obtain⟨d,r,rfl,h1,h2⟩:=hasAllW_cons hsh
 obtain rfl:=hasAllW_nil h2
 obtain⟨xs,rfl,h3⟩:=hasW_list h1
 obtain⟨ns,rfl⟩:=items_int h3
 have hlen:ns.length<=n:=by
  unfold OpenLaw.pre at hc;have h4:(WTm.not (.lt (.lit (.int (n:Int))) (.len (.arg 0)))).holds [] {args:=[.list (ns.map .int)]}=true:=by
   have h4:=(holds_andW hc).1;rw[hn]at h4;exact h4
  have h5:=condW_of h4 (w_not (w_lt w_lit (w_len_list (w_arg rfl))));rw[length_map]at h5;refine Nat.le_of_not_lt λq=>?_;have q':(n:Int)<((ns.length:Nat):Int):=by omega
  first
   |(rw[decide_eq_true q']at h5;exact absurd h5 (by decide))
   |(simp at h5;omega)
 cases hwl with
 |cons w1 w2=>
  cases w2;cases w1 with
  |list ho hall=>exact⟨_,_,ns,rfl,rfl,ho,ll ns _ hall,hlen⟩
theorem vX (l:OpenLaw) (args:List WData):l.row.toRowW.claim.post args (.bool true) args=true:=
 postW_of (r:=l.row.toRowW) (X:=(true==true))
  (show WShape.has [] (.bool true) .bool=true by first|rfl|decide|simp[WShape.has,WShape.arms,WShape.armsAll])
  (show(WTm.eq .res (.lit (.bool true))).value [] {args:=args,res:=some (.bool true),after:=args}=some (.bool (true==true))from w_eq_bool (w_res rfl) w_lit) rfl
theorem attach_call {l:OpenLaw} (hn:l.most=some n) (hdf:d.params.defaults=[]) (call:∀ (w:World) (s₀ s₁:Shared) (mg mb:Str->Option Value) (fa:Addr) (o:Obj) (pm cd doc:Value) (a:Addr) (vs:List Value) (ns:List Int),
   Ground q loose [] XP w s₀ mg mb s₁.heap->YP w s₁.heap->
   s₁.heap.get? fa=some o->o.data=.func (docDef d.name d.params d.body d.scope pm cd doc)->s₁.heap.CodeRec cd d.name->mg d.name=some (.ref fa)->
   s₁.heap.get? a=some {cls:=.type "list",data:=.seq vs.toArray}->IntsAre vs ns->ns.length<=n->s₁.gens=#[]->
   codeAny (model l.prog w) callerA (.call (.ref fa) ⟨[.ref a],[]⟩) (λr s'=>r=.ok (.ret (.bool true))/\OldK s₁.heap s'.heap/\s'.os=s₁.os/\AllBare s'.gens) s₁):
  WalkO q loose XP YP l.row.toRowW d [] (λf vs=>PySem.call f vs):=by
 intro w s₀ s₁ mg mb G σ fa o pm cd doc dV kV ho hd hcd hD hmg hg args vals as hpre hlay hrd hwl hlo
 obtain rfl:dV=.none:=Dflts.none hD hdf
 obtain rfl:kV=.none:=Dflts.noKw hD
 obtain⟨a,vs,ns,rfl,rfl,hobj,hints,hlen⟩:=vW hn hpre hwl
 refine enter_call (codeAny_mono (call w s₀ s₁ mg mb fa o pm cd doc a vs ns G σ ho (fd_plain hd) hcd hmg hobj hints hlen hg) λr s' hq=>?_)
 obtain⟨rfl,h2,h3,h4⟩:=hq
 exact⟨.inl ⟨.bool true,.bool true,[],rfl,λ_=>rfl,.bool true,vX l _,λ_=>⟨List.Pairwise.nil,λ_ hm=>(nomatch hm)⟩⟩,h2,h3,h4⟩
section
variable {prog:Program} {w:World} {A:Around} {E:Value->Shared->Prop} {s:Shared} {K:Frag}
end
end Att
namespace L2
open PySem PySem.Spec PyProof.Rows
theorem oK:∀ {vs:List Value} {ns:List Int},IntsAre vs ns->Vals (ns.map V.int) vs
 |_,_,.nil=>.nil
 |_,_,.cons n t h=>.cons ⟨t,rfl⟩ (oK h)
def Kp (H:Hp):Prop:=∀b,H b=none\/∃o xs,H b=some (.frz o (.lst xs))
def b8 (H:Hp):Hp:=λb=>match lamTabs.lookup b with
 |some z=>some (.cod #[] z.1 z.2)
 |none=>H b
theorem gw (h:lamTabs.lookup b=none):b8 H b=H b:=by unfold b8;rw[h]
theorem withT_yes (h:lamTabs.lookup b=some z):b8 H b=some (.cod #[] z.1 z.2):=by unfold b8;rw[h]
def pM (K:Frag) (h:Heap):Prop:=∀b z,lamTabs.lookup b=some z->h.get? b=some {cls:=.none,data:=.fields #[]}/\K.lookup b=none/\isCodeTable h b
theorem xm {K} (hT:pM K s₁.heap) (KX:K.In s₁.heap) (hns:s₁.heap.Ns mainGlobals mg) (hb:s₁.heap.Ns builtinsNs mb) (hbb:∀x:Str,x≠"__name__" ->mb x=bootBuiltins x) (hlim:s₁.heap.NoLimit) (hg:s₁.gens=#[]) (ha:s₁.heap.get? a=some {cls:=.type "list",data:=.seq vs.toArray}) (hi:IntsAre vs ns) (hl:ns.length<=sizeLine) (hr:Room k callerA) (F:∀base:Heap,K.In base->base.Ns mainGlobals mg->FnOk P w K mg base CX k fa fd [x] sp) (hbind:∀ (s:Shared) (u:Value),BindsTo s fd ⟨[u],[]⟩ [(x,u)]) (hsp:∀H:Hp,SqL K H a (ns.map V.int)->sp [.ref a] H (λv _=>v=.bl true) λ_ _ _=>False) (hCX:∀H e s',CX [] H s₁ (λ_ _ _=>False) e s'->False):
  codeAny (model P w) callerA (.call (.ref fa) ⟨[.ref a],[]⟩) (λr s'=>r=.ok (.ret (.bool true))/\OldK s₁.heap s'.heap/\s'.os=s₁.os/\AllBare s'.gens) s₁:=by
 have rv:=oK hi
 have lenV:=hi.length
 -- from an abstract heap in which nothing but the script may be tracked
 have core:∀H:Hp,Kp H->SqL K H a (ns.map V.int)->HOk P w H s₁.heap->(∀b,H b≠none->b=a)->(H a≠none->K.lookup a=none)->
   codeAny (model P w) callerA (.call (.ref fa) ⟨[.ref a],[]⟩) (λr s'=>r=.ok (.ret (.bool true))/\OldK s₁.heap s'.heap/\s'.os=s₁.os/\AllBare s'.gens) s₁:=by
  intro H0 hO hS0 hok0 hA0 hK
  have hTa:lamTabs.lookup a=none:=by
   cases q:lamTabs.lookup a with
   |none=>rfl
   |some z=>
    have e:=(hT a z q).1
    rw[ha]at e
    cases e
  have up:∀b o,H0 b=some o->b8 H0 b=some o:=λb o e=>by
   rw[gw (by rw[hA0 b (by rw[e];simp)];exact hTa)];exact e
  obtain⟨H,rfl⟩:∃H,H=b8 H0:=⟨_,rfl⟩
  have hA:∀b,b8 H0 b≠none->b=a\/∃z,lamTabs.lookup b=some z:=λb h=>by
   cases q:lamTabs.lookup b with
   |some z=>exact .inr ⟨z,rfl⟩
   |none=>rw[gw q]at h;exact .inl (hA0 b h)
  have hS:SqL K (b8 H0) a (ns.map V.int):=SqL.up up hS0
  have hok:HOk P w (b8 H0) s₁.heap:=λb o e=>by
   cases q:lamTabs.lookup b with
   |some z=>
    rw[withT_yes q]at e
    cases e
    exact .inl (hT b z q).1
   |none=>
    rw[gw q]at e
    exact(hok0 b o e).stay (λ_ _ _ z=>z) (λc z=>up _ _ z) (λc xs z=>up _ _ z) λc o' u' z=>up _ _ z
  have base_of:∀ {b:Addr} {o:Obj},s₁.heap.get? b=some o->b8 H0 b=none->(pF s₁.heap (b8 H0)).get? b=some o:=λe n=>wI e n
  have noA:∀ {b:Addr} {o:Obj} {es:Array DictEntry} {ep:Nat},s₁.heap.get? b=some o->o.data=.dict es ep->b8 H0 b=none:=λ{b o es ep} e d=>by
   cases q:b8 H0 b with
   |none=>rfl
   |some u=>
    rcases hA b (by rw[q];simp)with e'|⟨z,e'⟩
    ·subst e'
     rw[ha]at e;cases e
     have d':Data.seq vs.toArray _=Data.dict es ep:=d
     cases d'
    ·rw[(hT b z e').1]at e;cases e
     have d':Data.fields #[]=Data.dict es ep:=d
     cases d'
  have nsK:∀ {b:Addr} {m:Str->Option Value},s₁.heap.Ns b m->(pF s₁.heap (b8 H0)).Ns b m:=λ{b m} ⟨o,es,ep,e,d,r⟩=>⟨o,es,ep,base_of e (noA e d),d,r⟩
  have hKb:K.In (pF s₁.heap (b8 H0)):=λb o e=>base_of (KX b o e) (by
   cases q:b8 H0 b with
   |none=>rfl
   |some u=>
    rcases hA b (by rw[q];simp)with e'|⟨z,e'⟩
    ·subst e'
     rw[hK (by rw[gw hTa]at q;rw[q];simp)]at e;cases e
    ·rw[(hT b z e').2.1]at e;cases e)
  have hM:Mod K mg (pF s₁.heap (b8 H0)):=⟨hKb,nsK hns,⟨mb,nsK hb,hbb⟩,let⟨mc,h1,h2⟩:=hlim;⟨mc,nsK h1,h2⟩⟩
  have e0:Env0 P w K mg (pF s₁.heap (b8 H0)) callerA [] s₁ (b8 H0):=⟨rfl,hM,λb o e=>AF e,Nat.le_of_eq (vN _ _),trivial,⟨λb hb=>absurd (show b∈([]:List Addr)from hb) (by simp),λb z q=>withT_yes q⟩,hok,.of_eq hg⟩
  refine codeAny_mono ((F _ hKb (nsK hns)).run callerA [] s₁ (b8 H0) ⟨[.ref a],[]⟩ [.ref a] [.ref a] _ _ hr e0 (hbind s₁ (.ref a)) (.cons rfl .nil) (hsp (b8 H0) hS)) λr s' h=>?_
  cases r with
  |error e=>exact(hCX (b8 H0) e s' h).elim
  |ok fl=>
   cases fl with
   |next=>exact False.elim h
   |brk=>exact False.elim h
   |cont=>exact False.elim h
   |ret u=>
    obtain⟨v,H',os,bare,un,hok',r',q⟩:=h
    have q':v=.bl true:=q
    subst q'
    obtain rfl:u=Value.bool true:=r'
    have main:∀b o,s₁.heap.get? b=some o->s'.heap.get? b=some o\/(isCodeTable s₁.heap b/\o.cls=.none/\∃vs more,o.data=.fields vs/\s'.heap.get? b=some {o with data:=.fields (vs++more)}):=λb o e=>by
     cases q:b8 H0 b with
     |none=>exact .inl (un.keep b o e q (by intro z;exact absurd (show b∈([]:List Addr)from z) (by simp)) (by simp))
     |some u=>
      cases qt:lamTabs.lookup b with
      |some z=>
       have z2:=un.frzs b (.cod #[] z.1 z.2) True.intro (withT_yes (H:=H0) qt)
       obtain⟨g1,g2,g3⟩:=hT b z qt
       rw[e]at g1
       cases g1
       rcases hok' b _ z2 with y|⟨_,_,_,_,y,_⟩
       ·exact .inl y
       ·exact .inr ⟨g3,rfl,_,_,rfl,y⟩
      |none=>
       rw[gw qt]at q
       rcases hO b with z|⟨ob,xs,z⟩
       ·rw[q]at z;cases z
       ·have z2:=un.frzs b (.frz ob (.lst xs)) True.intro (up _ _ z)
        obtain⟨e1,_⟩:=hok b _ (up _ _ z)
        obtain⟨e2,_⟩:=hok' b _ z2
        rw[e]at e1;cases e1
        exact .inl e2
    refine⟨rfl,⟨λb o e=>?_,λb o e=>?_⟩,os,bare⟩
    ·rcases main b o e with y|⟨y1,y2,vs',more,y3,y4⟩
     ·exact .inl y
     ·exact .inr (.inl ⟨y1,y2,vs',more,y3,y4⟩)
    ·rcases main b o e with y|⟨_,_,_,_,_,y4⟩
     ·exact⟨_,y⟩
     ·exact⟨_,y4⟩
 cases hk:K.lookup a with
 |some o=>
  -- the script is one of the module's own objects
  have e:=KX a o hk
  rw[ha]at e
  cases e
  refine core (λ_=>none) (λ_=>.inl rfl) (.inr ⟨_,vs.toArray,_,hk,rfl,rfl,rfl,by rw[size_toArray,lenV];exact hl,by simpa using rv⟩) (λb u z=>by have z':(none:Option HO)=some u:=z;cases z') (λb z=>absurd rfl z) λz=>absurd rfl z
 |none=>
  refine core (λb=>if b=a then some (.frz {cls:=.type "list",data:=.seq vs.toArray} (.lst (ns.map V.int)))else none) (λb=>?_) (.inl (.inr ⟨{cls:=.type "list",data:=.seq vs.toArray},if_pos rfl⟩)) (λb u z=>?_) (λb z=>?_) λ_=>hk
  ·by_cases hb:b=a
   ·exact .inr ⟨_,_,if_pos hb⟩
   ·exact .inl (if_neg hb)
  ·by_cases hb:b=a
   ·have z':=(if_pos hb).symm.trans z
    cases z'
    subst hb
    exact⟨ha,by rw[length_map];exact hl,vs,_,rv,ha⟩
   ·have z':=(if_neg hb).symm.trans z
    cases z'
  ·by_cases hb:b=a
   ·exact hb
   ·exact absurd (if_neg hb) z
theorem walk_of {l:PySem.W.OpenLaw} {K:Params->Frag} {CX:World->CXT} {sp:World->Sp} (hn:l.most=some n) (hn2:n<=sizeLine) (hdf:d.params.defaults=[]) (hr:Room k callerA) (hY:∀ (w:World) (h:Heap),YP w h->(K w.params).In h) (hT:∀ (w:World) (h:Heap),YP w h->pM (K w.params) h) (F:∀ (w:World) (mg:Str->Option Value) (fa:Addr) (h:Heap),(K w.params).In h->h.Ns mainGlobals mg->mg d.name=some (.ref fa)->
   ∃fd:FuncData,(∀ (s:Shared) (u:Value),BindsTo s fd ⟨[u],[]⟩ [(x,u)])/\
    ∀base:Heap,(K w.params).In base->base.Ns mainGlobals mg->FnOk l.prog w (K w.params) mg base (CX w) k fa fd [x] (sp w)) (hsp:∀ (w:World) (H:Hp) (a:Addr) (ns:List Int),ns.length<=n->SqL (K w.params) H a (ns.map V.int)->sp w [.ref a] H (λv _=>v=.bl true) λ_ _ _=>False) (hCX:∀ (w:World) (H:Hp) (s:Shared) (e:Value) (s':Shared),CX w [] H s (λ_ _ _=>False) e s'->False):
  PySem.W.WalkO q loose XP YP l.row.toRowW d [] (λf vs=>PySem.call f vs):=by
 refine Att.attach_call hn hdf λw s₀ s₁ mg mb fa o pm cd doc a vs ns G σ ho hd hcd hmg hobj hints hlen hg=>?_
 have KX:=hY w _ σ
 obtain⟨fd,hb,hF⟩:=F w mg fa _ KX G.T.g hmg
 exact xm (hT w _ σ) KX G.T.g G.T.b G.T.builtins G.T.nolimit hg hobj hints (Nat.le_trans hlen hn2) hr hF hb (λH hS=>hsp w H a ns hlen hS) λH e s'=>hCX w H s₁ e s'
def lW (s:Stmt) (j:Nat):Stmt:=match s with
 |.ClassDef _ _ _ body _ _ _ _ _ _ _=>body.getD j (.Pass ⟨0,0,0,0⟩)
 |_=>.Pass ⟨0,0,0,0⟩
def cc (s:Stmt):Arguments:=match s with
 |.FunctionDef _ a _ _ _ _ _ _ _ _=>a
 |_=>{posonlyargs:=[],args:=[],vararg:=none,kwonlyargs:=[],kw_defaults:=[],kwarg:=none,defaults:=[]}
def aC (s:Stmt):List Stmt:=match s with
 |.FunctionDef _ _ b _ _ _ _ _ _ _=>b
 |_=>[]
def aj (s:Stmt):Scope:=match s with
 |.FunctionDef _ _ _ _ _ _ sc _ _ _=>sc
 |_=>{kind:=.function,names:=[],isGenerator:=false,isCoroutine:=false}
abbrev CX0:CXT:=λ_ _ _ _ _ _=>False
abbrev E0:XK:=λ_ _ _=>False
theorem qS:jO CX0 X E0:=λ_ _ _ _ _ _ _ h=>h.elim
structure Fun (K:Frag) (x qual:Str) (st:Stmt) (f:Addr) (fd:FuncData):Prop where
 ex:∃ (oc:Value) (od:Option Addr) (kV doc pm:Value) (an:Option Addr) (cdv ct:Value) (osl:Array (Option Value)),
  fd=PySem.W.fnOf x qual (cc st) (aC st) (aj st) .none kV doc pm an cdv ct/\K.lookup f=some ⟨oc,od,.func fd,osl⟩/\PySem.W.codeIn K cdv qual=true
 kp:PySem.W.keepIn K (.ref f)=true
section
variable {P:Program} {w:World} {K:Frag} {mg:Str->Option Value} {base:Heap}
theorem Fun.ok {st} (F:Fun K x qual st f fd) (S:FnScope N ps (aj st)) (len:∀vs H Q E,sp vs H Q E->vs.length=ps.length) (hbody:∀ (cdv:Value) (A:Around) (outer:List Env) (s:Shared) (H:Hp) (vs:List V) (Q:VK) (E:XK),Room k (A.deeper (envOfC qual (aj st) s.heap.objs.size f cdv))->sp vs H Q E->
  ∃t,PSs (gq CX0 P w K mg base N qual (aj st) f cdv A outer s H E).nox (aC st) t/\t {nx:=λ_ H'=>Q .non H',rt:=Q} (f9 N vs) H):FnOk P w K mg base CX0 (k+1) f fd ps sp:=by
 obtain⟨oc,od,kV,doc,pm,an,cdv,ct,osl,rfl,lk,hcd⟩:=F.ex
 refine w6 lk hcd S len λA outer s H vs Q E hr hsp=>?_
 obtain⟨t,h,q⟩:=hbody cdv A outer s H vs Q E hr hsp
 exact⟨t,h.nox,q⟩
theorem Fun.binds {st} (F:Fun K x qual st f fd) (h:∀ (kV doc pm:Value) (an:Option Addr) (cdv ct:Value) (us:List Value),us.length=ps.length->bindArgs (PySem.W.fnOf x qual (cc st) (aC st) (aj st) .none kV doc pm an cdv ct) ⟨us,[]⟩=pure (ps.zip us)):Binds K fd ps []:=by
 obtain⟨oc,od,kV,doc,pm,an,cdv,ct,osl,rfl,lk,hcd⟩:=F.ex;exact .all (h kV doc pm an cdv ct)
theorem iS {st} {kV doc pm cdv ct} (l:K.lookup f=some ⟨oc,od,.func (PySem.W.fnOf x qual (cc st) (aC st) (aj st) .none kV doc pm an cdv ct),osl⟩) (c:PySem.W.codeIn K cdv qual=true) (k:PySem.W.keepIn K (.ref f)=true):Fun K x qual st f (PySem.W.fnOf x qual (cc st) (aC st) (aj st) .none kV doc pm an cdv ct):=⟨⟨oc,od,kV,doc,pm,an,cdv,ct,osl,rfl,l,c⟩,k⟩
end
section
variable {X:Cx}
end
theorem AT {A B:Prop} (h:B):if false=true then A else B:=by
 rw[if_neg Bool.false_ne_true];exact h
theorem AU {A B:Prop} (h:A):if true=true then A else B:=by
 rw[if_pos rfl];exact h
def Same (H H':Hp):Prop:=∀b o,H b=some o->H' b=some o
theorem Same.refl (H:Hp):Same H H:=λ_ _ h=>h
theorem Same.trans (a:Same H H1) (b:Same H1 H2):Same H H2:=λc o h=>b c o (a c o h)
theorem Same.free (e:Same H H') (h:H' l=Option.none):H l=Option.none:=by
 cases q:H l with
 |none=>rfl
 |some o=>
  rw[e l o q]at h;cases h
theorem Same.seq {K} (e:Same H H') (h:SqL K H a xs):SqL K H' a xs:=by
 rcases h with(h|⟨o,h⟩)|h
 ·exact .inl (.inl (e _ _ h))
 ·exact .inl (.inr ⟨o,e _ _ h⟩)
 ·exact .inr h
theorem PE.imp (h:PE X e t) (k:∀Y H Q,t' Y H Q->t Y H Q):PE X e t':=λpins s Y H Q I q=>h pins s Y H Q I (k _ _ _ q)
theorem PT.imp (h:PT X e t) (k:∀Y H Q,t' Y H Q->t Y H Q):PT X e t':=λpins s Y H Q I q=>h pins s Y H Q I (k _ _ _ q)
theorem PA.imp (h:PA X e t) (k:∀Y H Q,t' Y H Q->t Y H Q):PA X e t':=λpos pins s Y H Q I q=>h pos pins s Y H Q I (k _ _ _ q)
theorem PS.imp {st} (h:PS X st t) (k:∀D Y H,t' D Y H->t D Y H):PS X st t':=λpins s Y H D I q=>h pins s Y H D I (k _ _ _ q)
theorem PSs.imp {st} (h:PSs X st t) (k:∀D Y H,t' D Y H->t D Y H):PSs X st t':=λpins s Y H D I q=>h pins s Y H D I (k _ _ _ q)
theorem PI.imp (h:PI X tg iter t) (k:∀Y H R,t' Y H R->t Y H R):PI X tg iter t':=λpins s Y H R I q=>h pins s Y H R I (k _ _ _ q)
theorem PG.imp (h:PG X tg t) (k:∀v Y H Q,t' v Y H Q->t v Y H Q):PG X tg t':=λpins s Y H v u Q I r q=>h pins s Y H v u Q I r (k _ _ _ _ q)
theorem kN {α β:Type} {f:α->β->Sem (ForInStep β)} {g}:∀ (l:List α) (c:β),(∀x∈l,∀c,f x c=pure (.yield (g c x)))->forIn l c f=pure (l.foldl g c)
 |[],_,_=>rfl
 |x::l,c,h=>by
  rw[List.forIn_cons,h x mem_cons_self,pure_bind];exact kN l _ λy hy=>h y (mem_cons_of_mem _ hy)
def eI (env:Env) (cs:List (Str×Addr)) (x:Str×NameKind):List (Str×Addr):=if x.2==.free then(x.1,(env.cells.lookup x.1).getD 0)::cs else cs
abbrev pN (env:Env) (scope:Scope):List (Str×Addr):=scope.names.foldl (eI env) []
theorem gx (h:(k==NameKind.free)=true):k=.free:=by
 cases k<;>first|rfl|exact absurd h (by decide)
theorem mE (h:∀y∈scope.names,y.2=.free->∃c,env.cells.lookup y.1=some c):closureFor scope env=pure (pN env scope):=by
 simp only[closureFor];rw[kN (g:=eI env) scope.names [] (λx hx c=>by
  obtain⟨n,k⟩:=x;unfold eI;cases hk:(k==NameKind.free)with
  |false=>simp
  |true=>
   obtain⟨a,e⟩:=h (n,k) hx (gx hk);have e':env.cells.lookup n=some a:=e;simp[cellOf,e'])]
 rfl
theorem dX:∀ (l:List (Str×NameKind)) (cs:List (Str×Addr)),(∀x c,cs.lookup x=some c->env.cells.lookup x=some c)->(∀y∈l,y.2=.free->∃c,env.cells.lookup y.1=some c)->
  ∀x c,(l.foldl (eI env) cs).lookup x=some c->env.cells.lookup x=some c
 |[],_,h,_,x,c,e=>h x c e
 |(n,k)::l,cs,h,hl,x,c,e=>by
  refine dX l (eI env cs (n,k)) (λy d q=>?_) (λy hy=>hl y (mem_cons_of_mem _ hy)) x c e;unfold eI at q;cases hk:(k==NameKind.free)with
  |false=>rw[hk]at q;exact h y d (by simpa using q)
  |true=>
   rw[hk]at q;obtain⟨a,ea⟩:=hl (n,k) mem_cons_self (gx hk);have ea':env.cells.lookup n=some a:=ea;simp only[if_true,List.lookup_cons,ea',Option.getD_some]at q;cases hy:(y==n)with
   |true=>
    rw[hy]at q;have hyn:y=n:=by simpa using hy
    rw[hyn,ea'];exact q
   |false=>rw[hy]at q;exact h y d q
theorem iT:∀ (l:List (Str×NameKind)) (cs:List (Str×Addr)) (x:Str),((x,NameKind.free)∈l\/(cs.lookup x).isSome=true)->((l.foldl (eI env) cs).lookup x).isSome=true
 |[],_,_,h=>by
  rcases h with h|h
  ·cases h
  ·exact h
 |(n,k)::l,cs,x,h=>by
  refine iT l (eI env cs (n,k)) x ?_;rcases h with h|h
  ·rcases mem_cons.mp h with e|h
   ·cases e;refine .inr ?_;unfold eI;simp
   ·exact .inl h
  ·refine .inr ?_;unfold eI;split
   ·rw[List.lookup_cons];split
    ·rfl
    ·exact h
   ·exact h
theorem mF (h:(relabel scope env).names.lookup x=some k):∃k0,(x,k0)∈scope.names/\(k0=k\/(k0=.free/\k=.cell)):=by
 have h':(scope.names.map λ(n,k)=>if(k==NameKind.free&&env.scope.kind==.function&&env.kindOf n==some .cell)then(n,NameKind.cell)else(n,k)).lookup x=some k:=h;have hm:=PySem.mem_of_lookup h';obtain⟨⟨n,k0⟩,hn,e⟩:=List.mem_map.mp hm;by_cases hc:(k0==NameKind.free&&env.scope.kind==.function&&env.kindOf n==some .cell)=true
 ·have e':(n,NameKind.cell)=(x,k):=by
   have:=e;simp only[hc,if_true]at this;exact this
  cases e';have hf:k0=.free:=gx (by
   rw[and_eq_true,and_eq_true]at hc;exact hc.1.1)
  exact⟨k0,hn,.inr ⟨hf,rfl⟩⟩
 ·have e':(n,k0)=(x,k):=by
   have:=e;simp only[hc]at this;exact this
  cases e';exact⟨_,hn,.inl rfl⟩
def cxC (X:Cx) (scope:Scope) (C:Addr) (s:Shared) (H:Hp) (fp:List Addr):Cx where
 prog:=X.prog
 w:=X.w
 K:=X.K
 mg:=X.mg
 base:=X.base
 A:=X.A
 N:=X.N
 s₀:=s
 H₀:=H
 env:=compEnvC scope (pN X.env scope) C X.env
 outer:=X.stack
 stack:=X.stack
 ex:=fp
 fn:=λ_=>false
 calm:=X.calm
 pn:=[]
 xe:=λ_ _=>False
structure CSc (X:Cx) (scope:Scope) (ks:List Nat):Prop where
 kind:scope.kind=.function
 nocell:∀y∈scope.names,y.2≠.cell
 names:∀y∈scope.names,y.2=.local->scope.names.lookup y.1=some .local
 free:∀y∈scope.names,y.2=.free->X.env.scope.names.lookup y.1=some .cell\/X.env.scope.names.lookup y.1=some .free
 own:∀ (i:Nat) (x:Str),X.N[i]?=some x->scope.names.lookup x=some .local->i∈ks
def dI {α:Type} (ks:List Nat) (Y:List (Option α)):List (Option α):=ks.foldl (λY k=>Y.set k none) Y
theorem jd:∀ (ks:List Nat) (Y:List (Option α)),(dI ks Y).length=Y.length
 |[],_=>rfl
 |k::ks,Y=>by
  show(dI ks (Y.set k none)).length=_;rw[jd ks];simp
theorem mG:∀ (ks:List Nat) (Y:List (Option α)) (i:Nat) (v:α),(dI ks Y)[i]?=some (some v)->Y[i]?=some (some v)/\i ∉ ks
 |[],_,_,_,h=>⟨h,by simp⟩
 |k::ks,Y,i,v,h=>by
  obtain⟨h1,h2⟩:=mG ks (Y.set k none) i v h;by_cases hk:k=i
  ·subst hk;rw[List.getElem?_set]at h1;simp only[if_true]at h1;split at h1<;>simp at h1
  ·rw[List.getElem?_set_ne hk]at h1;exact⟨h1,by simp[h2,Ne.symm hk]⟩
theorem qT:∀ (ks:List Nat) (Y:List (Option α)) (i:Nat) (v:α),Y[i]?=some (some v)->i ∉ ks->(dI ks Y)[i]?=some (some v)
 |[],_,_,_,h,_=>h
 |k::ks,Y,i,v,h,hn=>by
  refine qT ks (Y.set k none) i v ?_ λz=>hn (mem_cons_of_mem _ z);rw[List.getElem?_set_ne (λz=>hn (by simp[z]))];exact h
section
variable {X:Cx} {pins:List (Addr×Obj)} {Y:St} {H:Hp} {s:Shared} {fp:List Addr} {scope:Scope} {ks:List Nat} {C D:Addr}
theorem Inv.cells_of (I:Inv X pins Y H s) (S:CSc X scope ks):∀y∈scope.names,y.2=.free->∃c,X.env.cells.lookup y.1=some c:=λy hy hf=>I.ok.has y.1 (S.free y hy hf)
theorem sX (I:Inv X pins Y H s) (S:CSc X scope ks) (hf:∀b∈fp,iR X pins H b) (hlt:∀b∈fp,b<s.heap.objs.size) (hC:s.heap.objs.size<=C):(cxC X scope C s H fp).Ok where
 mod:=I.ok.mod
 kind:=S.kind
 glob:=I.ok.glob
 blt:=I.ok.blt
 above:=hC
 inj:=λx y c h1 h2=>I.ok.inj x y c (dX _ [] (λ_ _ z=>nomatch z) (I.cells_of S) x c h1) (dX _ [] (λ_ _ z=>nomatch z) (I.cells_of S) y c h2)
 has:=λx hx=>by
  have q:∃k,(relabel scope X.env).names.lookup x=some k/\(k=.cell\/k=.free):=by
   rcases hx with h|h
   ·exact⟨_,h,.inl rfl⟩
   ·exact⟨_,h,.inr rfl⟩
  obtain⟨k,hk,hc⟩:=q;obtain⟨k0,hm,h0⟩:=mF hk;have hfree:k0=.free:=by
   rcases h0 with rfl|⟨h,_⟩
   ·rcases hc with z|z
    ·exact absurd z (S.nocell _ hm)
    ·exact z
   ·exact h
  subst hfree;exact Option.isSome_iff_exists.mp (iT scope.names [] x (.inl hm))
 cab:=λ_ _ z=>absurd z Bool.false_ne_true
 hd:=I.ok.hd
 frames:=I.ok.frames
 stk:=.inl rfl
 exf:=λb hb=>⟨Nat.ne_of_lt (lt_of_lt_of_le (hlt b hb) hC),λx c e=>(hf b hb).2.2.2.2.1 x c (dX _ [] (λ_ _ z=>nomatch z) (I.cells_of S) x c e)⟩
 bs:=I.bs
 bsz:=Nat.le_trans I.ok.bsz I.sz
 noex:=λb o e hb=>by
  rcases(hf b hb).2.2.2.1 with z|z
  ·exact I.ok.noex b o e z
  ·exact absurd (lt_of_lt_of_le (lt_of_lt_of_le (Heap.lt_size e) I.ok.bsz) z) (Nat.lt_irrefl _)
 exfs:=λb hb hs=>by
  rcases mem_cons.mp (I.stkSub b hs)with z|z
  ·exact(hf b hb).2.1 z
  ·exact(hf b hb).2.2.1 z
 funs:=I.stack
 frf:=⟨I.stkFree,I.tab⟩
theorem vY {its:List Value} (I:Inv X pins Y H s) (S:CSc X scope ks) (hf:∀b∈fp,iR X pins H b) (hlt:∀b∈fp,b<s.heap.objs.size) (hD:s.heap.objs.size<=D) (hC:s.heap.objs.size<=C) (hDC:D≠C) (old:∀b o,s.heap.get? b=some o->h₁.get? b=some o) (hns:h₁.Ns C m) (hacc:h₁.get? D=some {cls:=.type "list",data:=.seq its.toArray n}):
  Inv (cxC X scope C s H fp) [(D,{cls:=.type "list",data:=.seq its.toArray n})] (dI ks Y) H {s with heap:=h₁,toks:=tk}:=by
 have cs:=dX scope.names [] (λ_ _ z=>nomatch z) (I.cells_of S)
 refine⟨sX I S hf hlt hC,rfl,I.bare,Un.kept old,⟨m,hns,λi x v hN hY hv=>?_⟩,λx c e=>?_,I.hok.fresh hC,λx c e=>I.freeC x c (cs x c e),λp hp=>?_,I.hok.kept old,?_⟩
 ·obtain⟨h1,h2⟩:=mG ks Y i v hY;have hv':∃k,(relabel scope X.env).names.lookup x=some k/\(k=.local\/k=.cell\/k=.free):=by
   rcases hv with h|h|h
   ·exact⟨_,h,.inl rfl⟩
   ·exact⟨_,h,.inr (.inl rfl)⟩
   ·exact⟨_,h,.inr (.inr rfl)⟩
  obtain⟨k,hk,hkk⟩:=hv';obtain⟨k0,hm,h0⟩:=mF hk;have hfree:k0=.free:=by
   rcases h0 with e|⟨h,_⟩
   ·subst e;rcases hkk with z|z|z
    ·exact absurd (S.own i x hN (S.names _ hm z)) h2
    ·exact absurd z (S.nocell _ hm)
    ·exact z
   ·exact h
  subst hfree;have hX:=S.free _ hm rfl;obtain⟨m0,hn0,hl0⟩:=I.loc;obtain⟨u,r,l⟩:=hl0 i x v hN h1 (by rcases hX with z|z;exact .inr (.inl z);exact .inr (.inr z));refine⟨u,r,.inr ⟨?_,?_⟩⟩
  ·have hk2:k=.cell\/k=.free:=by
    rcases h0 with e|⟨_,e⟩
    ·exact .inr e.symm
    ·exact .inl e
   rcases hk2 with e|e
   ·subst e;exact .inl hk
   ·subst e;exact .inr hk
  ·rcases l with⟨hloc,_⟩|⟨_,c,ec,hcell⟩
   ·have hloc':X.env.scope.names.lookup x=some .local:=hloc;rcases hX with z|z
    ·rw[hloc']at z;cases z
    ·rw[hloc']at z;cases z
   ·obtain⟨c',ec'⟩:=Option.isSome_iff_exists.mp (iT (env:=X.env) scope.names [] x (.inl hm));have e2:=cs x c' ec';rw[ec]at e2;cases e2;obtain⟨o,ho,hd⟩:=hcell;exact⟨c,ec',o,old c o ho,hd⟩
 ·obtain⟨v,o,ho,hd⟩:=I.cell x c (cs x c e);exact⟨v,o,old c o ho,hd⟩
 ·have e:p=(D,{cls:=.type "list",data:=.seq its.toArray n}):=by
   have hp':p∈[]++[(D,({cls:=.type "list",data:=.seq its.toArray n}:Obj))]:=hp;simpa using hp'
  subst e;refine⟨hacc,I.hok.fresh hD,hDC,λhb=>?_,λv z=>?_⟩
  ·rcases mem_cons.mp (I.stkSub D hb)with z|z
   ·exact absurd (lt_of_lt_of_le I.lt hD) (by rw[z];exact Nat.lt_irrefl _)
   ·exact I.nofs hD z
  ·have z':Data.seq its.toArray n=Data.cell v:=z;cases z'
 ·show(dI ks Y).length=X.N.length;rw[jd];exact I.len
theorem HOk.adopt (x:HOk P w H h) (hn:H a=none) (new:ObjOk P w (upd H a o) h a o):HOk P w (upd H a o) h:=λb u q=>by
 by_cases hb:b=a
 ·subst hb;rw[upd_same]at q;cases q;exact new
 ·rw[ag hb]at q;refine(x b u q).stay (λ_ _ _ z=>z) (λc z=>?_) (λc xs z=>?_) λc o' u' z=>?_
  ·rw[ag (ak z hn)];exact z
  ·rw[ag (ak z hn)];exact z
  ·rw[ag (ak z hn)];exact z
theorem AV {Y':St} (I:Inv X pins Y H s) (J:Inv (cxC X scope C s H fp) pl Y' H' s') (hf:∀b∈fp,iR X pins H b) (hD:s.heap.objs.size<=D) (hDn:H' D=none) (hacc:s'.heap.get? D=some {cls:=.type "list",data:=.seq its.toArray n}) (r:Vals ys its) (hz:ys.length<=sizeLine):Inv X pins Y (upd H' D (.lst ys)) s':=by
 have B:Un (frs X.stack) fp H H' s.heap s'.heap:=J.base;have ne:∀b o,s.heap.get? b=some o->b≠D:=λb o e=>Nat.ne_of_lt (lt_of_lt_of_le (Heap.lt_size e) hD);refine I.call' (ch:=fp) J.os ⟨B.keep,B.slot,λb o e q hx=>?_,B.there,λb xs q=>?_,λb o u q=>?_,λb ps q=>?_⟩ (J.hok.adopt hDn ⟨hz,its,n,r,hacc⟩) J.bare λb hb=>?_
 ·rw[ag (ne b o e)];exact B.free b o e q hx
 ·have z:=B.tups b xs q;rw[ag (ak z hDn)];exact z
 ·have z:=B.frzs b o u q;rw[ag (ak z hDn)];exact z
 ·obtain⟨more,z⟩:=B.tbls b ps q;exact⟨more,by rw[ag (ak z hDn)];exact z⟩
 ·obtain⟨_,f1,_,f3,f4,f5⟩:=hf b hb;exact⟨f3,f1,f4,f5⟩
end
def PTs (X:Cx) (ifs:List Expr) (t:TT):Prop:=
 ∀ (pins:List (Addr×Obj)) (s:Shared) (Y:St) (H:Hp) (Q:Bool->Hp->Prop),Inv X pins Y H s->t Y H Q->
  wpAny (model X.prog X.w) X.A (forIn ifs true λc r=>if r=true then do let ok<-isTrue c X.env (eval c X.env);pure (ForInStep.yield ok)else pure (ForInStep.yield r)) (TP X pins Y Q) X.xe s
def Kq:TT:=λ_ H Q=>Q true H
theorem pts_nil:PTs X [] Kq:=λ_ _ _ H _ I h=>wpAny_tests_nil ⟨H,I,h⟩
theorem AW (h:PT X c t):PTs X [c] t:=λpins s Y H Q I q=>wpAny_tests_one (h pins s Y H Q I q)
section
variable {prog:Program} {w:World} {A:Around} {R:Result->Shared->Prop} {s:Shared}
theorem sY (I:Nat->Shared->Prop) (turn:∀n s,I n s->wpAny (model prog w) A (pyNext it) (λr s1=>match r with
   |none=>R (.ok .next) s1
   |some v=>wpAny (model prog w) A (letOwnedTupleGo tg it v) (λ_ s2=>wpAny (model prog w) A (assign tg env v) (λ_ s3=>
    wpAny (model prog w) A (forIn ifs true λc r=>if r=true then do let ok<-isTrue c env (eval c env);pure (ForInStep.yield ok)else pure (ForInStep.yield r)) (λok s4=>
     if ok=true then wpAny (model prog w) A (eval elt env) (λx s5=>wpAny (model prog w) A (call (.builtin "list.append") [acc,x]) (λ_ s6=>∃m,m<n/\I m s6) (λ_ _=>False) s5) (λ_ _=>False) s4
     else∃m,m<n/\I m s4) (λ_ _=>False) s3) (λ_ _=>False) s2) (λ_ _=>False) s1) (λ_ _=>False) s) (n:Nat) (h:I n s):codeAny (model prog w) A (.compLoop (.ListComp elt [⟨tg,iter,ifs,0⟩] scope pos) 0 it acc env) R s:=by
 refine codeAny_loop rfl I (λk s' hI=>?_) n h
 show wpAny _ A ((compTurn (.ListComp elt [⟨tg,iter,ifs,0⟩] scope pos) 0 it acc env).onRaise (λx=>do noteFrame x env;theTreesLotGoes x)) _ _ s'
 refine wpAny_noted ?_
 rw[compTurn_list]
 refine wpAny_bind (wpAny_standAt (wpAny_bind (wpAny_mono (turn k s' hI) (λr s1 h1=>?_) λ_ _ z=>z.elim)))
 cases r with
 |none=>exact wpAny_pure h1
 |some v=>
  refine wpAny_bind (wpAny_mono h1 (λ_ s2 h2=>?_) λ_ _ z=>z.elim);refine wpAny_bind (wpAny_mono h2 (λ_ s3 h3=>?_) λ_ _ z=>z.elim);refine wpAny_bind (wpAny_mono h3 (λok s4 h4=>?_) λ_ _ z=>z.elim);cases ok with
  |false=>exact wpAny_pure ⟨rfl,h4⟩
  |true=>
   refine wpAny_bind (wpAny_bind (wpAny_mono h4 (λx s5 h5=>?_) λ_ _ z=>z.elim));exact wpAny_bind (wpAny_mono h5 (λ_ s6 h6=>wpAny_pure (wpAny_pure ⟨rfl,h6⟩)) λ_ _ z=>z.elim)
end
def Kr (Y Y':St):Prop:=Y'.length=Y.length/\∀ (i:Nat) (v:V),Y[i]?=some (some v)->Y'[i]?=some (some v)
def CV (J:It) (ks:List Nat) (g:TG) (tt:TT) (te:TE) (Y:St) (Fin:List V->Hp->Prop) (W:Nat->Nat->List V->Hp->Prop):Prop:=∀i m ys H2,W i m ys H2->
 (J.stop i H2/\ys.length<=sizeLine/\Fin ys H2)\/
 (J.go i H2/\ys.length<sizeLine/\∀x H3,J.yld i H2 x H3->g x (dI ks Y) H3 λY4 H4=>Kr (dI ks Y) Y4/\tt Y4 H4 λc H5=>
  if c=true then te Y4 H5 λy H6=>∃m',m'<m/\W (i+1) m' (ys++[y]) H6 else∃m',m'<m/\W (i+1) m' ys H5)
def qU (wi:TI) (ks:List Nat) (g:TG) (tt:TT) (te:TE):TE:=λY H Q=>wi Y H λJ H1=>∃W:Nat->Nat->List V->Hp->Prop,(∃m,W 0 m [] H1)/\
 CV J ks g tt te Y (λys H2=>∀p,H2 p=none->Q (.ref p) (upd H2 p (.lst ys))) W
section
variable {X:Cx} {scope:Scope} {ks:List Nat} {tg elt iter:Expr} {ifs:List Expr} {g:TG} {tt:TT} {te:TE} {pos:Pos}
theorem mH {Y:St} {RR:Value->Addr->Result->Shared->Prop} {Fin} (hc:X.calm=true) (S:CSc X scope ks) (I2:Inv X pins Y H2 s2) (T:Turn X.prog X.w X.K tg J fp it tn) (st:tn 0 s2.heap) (f2:∀b∈fp,iR X pins H2 b) (hg:∀C s H,PG (cxC X scope C s H fp) tg g) (htt:∀C s H,PTs (cxC X scope C s H fp) ifs tt) (he:∀C s H,PE (cxC X scope C s H fp) elt te) (w0:∃m,W 0 m [] H2) (turn:CV J ks g tt te Y Fin W) (hR:∀D C H3 s3 m ys,Inv X pins Y (upd H3 D (.lst ys)) s3->H3 D=none->upd H3 D (.lst ys) C=none->C≠X.env.locals->s2.heap.objs.size<=C->s3.heap.Ns C m->Fin ys H3->RR (.ref D) C (.ok .next) s3):
  wpAny (model X.prog X.w) X.A (newList []) (λacc s₃=>wpAny (model X.prog X.w) X.A (newFunctionEnv scope X.env.globals (pN X.env scope) [] X.env.qual none .none (some X.env)) (λcenv s₄=>
   codeAny (model X.prog X.w) X.A (.compStart (.ListComp elt [⟨tg,iter,ifs,0⟩] scope pos) 0 (.ref it) acc {cenv with scope:=relabel scope X.env}) (RR acc cenv.locals) s₄) E s₃) E s2:=by
 have hlt:∀b∈fp,b<s2.heap.objs.size:=λb hb=>by
  obtain⟨o,e,_⟩:=T.obj _ _ st b hb
  exact Heap.lt_size e
 refine wpAny_newObj_type (wpAny_newFunctionEnv S.nocell (by intro y hy;simp at hy) (λh₁ hns₁ hsb₁=>?_) S.kind)
 dsimp only at hns₁ hsb₁⊢
 generalize hH2:s2.heap.push {cls:=.type "list",dict:=none,data:=.seq ([]:List Value).toArray}=G at hns₁ hsb₁⊢
 have hCe:G.objs.size=s2.heap.objs.size+1:=by rw[<-hH2,Heap.size_push]
 have hDC:s2.heap.objs.size≠G.objs.size:=by rw[hCe];exact Nat.ne_of_lt (Nat.lt_succ_self _)
 have hC:s2.heap.objs.size<=G.objs.size:=by rw[hCe];exact Nat.le_succ _
 have old:∀b o,s2.heap.get? b=some o->h₁.get? b=some o:=λb o e=>
  hsb₁.extBut b o (Nat.ne_of_lt (lt_of_lt_of_le (Heap.lt_size e) hC)) (Heap.get?_push_of_some _ (hH2▸Heap.get?_push_of_some _ e))
 have hacc:h₁.get? s2.heap.objs.size=some {cls:=.type "list",data:=.seq ([]:List Value).toArray 0}:=hsb₁.extBut _ _ hDC (Heap.get?_push_of_some _ (hH2▸Heap.get?_push_size _ rfl))
 generalize hDn:s2.heap.objs.size=D at*
 generalize hCn:G.objs.size=C at*
 have st₁:tn 0 h₁:=T.keep _ _ _ st λb hb o e=>old b o e
 let σ:=cxC X scope C s2 H2 fp
 have fpY:∀ {pl:List (Addr×Obj)} {H':Hp},(∀b∈fp,H' b=none)->(∀p∈pl,D<=p.1)->∀b∈fp,iR σ pl H' b:=λ{pl H'} hn hp b hb=>by
  refine⟨hn b hb,Nat.ne_of_lt (lt_of_lt_of_le (hlt b hb) hC),λz=>?_,.inl hb,((sX I2 S f2 (hDn▸hlt) (hDn▸hC)).exf b hb).2,λp hq=>?_⟩
  ·exact(sX I2 S f2 (hDn▸hlt) (hDn▸hC)).exfs b hb z
  ·have hq':p∈[]++pl:=hq
   have:=hp p (by simpa using hq')
   exact Nat.ne_of_gt (lt_of_lt_of_le (hlt b hb) this)
 have loop:∀tk,codeAny (model X.prog X.w) X.A (.compLoop (.ListComp elt [⟨tg,iter,ifs,0⟩] scope pos) 0 (.ref it) (.ref D) (compEnvC scope (pN X.env scope) C X.env)) (RR (.ref D) C) {s2 with heap:=h₁,toks:=tk}:=λtk=>by
  obtain⟨m0,w0⟩:=w0
  refine sY (λn s'=>∃i ys its cap H',Inv σ [(D,{cls:=.type "list",data:=.seq (List.toArray its) cap})] (dI ks Y) H' s'/\Vals ys its/\tn i s'.heap/\(∀b∈fp,H' b=none)/\W i n ys H') ?_ m0
   ⟨0,[],[],0,H2,vY I2 S f2 (hDn▸hlt) (hDn▸le_refl _) (hDn▸hC) hDC old hns₁ hacc,.nil,st₁,λb hb=>(f2 b hb).1,w0⟩
  rintro n s3 ⟨i,ys,its,cap,H3,I3,rv,st3,fr3,w3⟩
  have pinD:∀p∈[(D,({cls:=.type "list",data:=.seq (List.toArray its) cap}:Obj))],D<=p.1:=λp hp=>by
   have e:p=(D,{cls:=.type "list",data:=.seq (List.toArray its) cap}):=by simpa using hp
   rw[e];exact le_refl _
  have hDpin:=I3.pin (D,{cls:=.type "list",data:=.seq (List.toArray its) cap}) (mem_append_right _ mem_cons_self)
  rcases turn i n ys H3 w3 with⟨stop,hz,fin⟩|⟨go,hz,step⟩
  ·refine thn (T.done σ rfl rfl rfl hc i _ s3 _ H3 (λ_ _=>False) I3 (fpY fr3 pinD) st3 stop) λr s4 ⟨hr,I4⟩=>?_
   subst hr
   have hD4:=I4.pin (D,{cls:=.type "list",data:=.seq (List.toArray its) cap}) (mem_append_right _ mem_cons_self)
   obtain⟨m4,hn4,_⟩:=I4.loc
   have JX:=AV (D:=D) (ys:=ys) (its:=its) (n:=cap) I2 I4 f2 (Nat.le_of_eq hDn) hD4.2.1 hD4.1 rv hz
   exact hR D C H3 s4 m4 ys JX hD4.2.1 (by rw[ag (Ne.symm hDC)];exact I4.free) (Nat.ne_of_gt (lt_of_lt_of_le I2.lt (hDn▸hC))) hC hn4 fin
  ·refine thn (T.item σ rfl rfl rfl hc i _ s3 _ H3 (λ_ _=>False) I3 (fpY fr3 pinD) st3 go) λr s4 ⟨u,hr,h4⟩=>?_
   subst hr
   refine thn h4 λ_ s5 ⟨x,H5,I5,r5,y5,st5,fr5⟩=>?_
   have I5':=I5.pinned (fpY fr5 pinD) (T.obj _ _ st5)
   refine thn (hg C s2 H2 _ s5 _ H5 x u _ I5' r5 (step x H5 y5)) λ_ s6 ⟨Y6,H6,I6,kp,q6⟩=>?_
   refine thn (htt C s2 H2 _ s6 Y6 H6 _ I6 q6) λok s7 ⟨H7,I7,q7⟩=>?_
   -- the iterator's own objects stand
   have stay:∀ {H':Hp} {s':Shared},Inv σ ([(D,({cls:=.type "list",data:=.seq (List.toArray its) cap}:Obj))]++mw fp s5.heap) Y6 H' s'->tn (i+1) s'.heap/\∀b∈fp,H' b=none:=λ{H' s'} I'=>by
    refine⟨T.keep _ _ _ st5 λb hb o e=>(I'.pin (b,o) (mem_append_right _ (mem_append_right _ (fH hb e)))).1,λb hb=>?_⟩
    obtain⟨o,e,_⟩:=T.obj _ _ st5 b hb
    exact(I'.pin (b,o) (mem_append_right _ (mem_append_right _ (fH hb e)))).2.1
   cases ok with
   |false=>
    obtain⟨m',hm,w7⟩:=q7
    obtain⟨t7,n7⟩:=stay I7
    exact⟨m',hm,i+1,ys,its,cap,H7,I7.unpinned.weak kp.1.symm kp.2,rv,t7,n7,w7⟩
   |true=>
    rw[if_pos rfl]
    refine thn (he C s2 H2 _ s7 Y6 H7 _ I7 q7) λy s8 ⟨yv,H8,I8,r8,m',hm,w8⟩=>?_
    obtain⟨t8,n8⟩:=stay I8
    have hD8:=I8.pin (D,{cls:=.type "list",data:=.seq (List.toArray its) cap}) (mem_append_right _ (mem_append_left _ mem_cons_self))
    have hlen:=rv.length
    refine append_at hD8.1 (λh9 sb hD9=>?_) (by rw[size_toArray];omega)
    have I9:Inv σ [] Y6 H8 {s8 with heap:=h9,toks:=s8.toks}:=Inv.turned (it:=D) (I8.pins_of (pins':=[]) λp hp=>nomatch hp) (λb o hb e=>sb.extBut b o hb e) hD8.2.1 hD8.2.2.1 (.inr (Nat.le_of_eq hDn))
     (λx c e z=>by
      obtain⟨v,q⟩:=I8.cell x c e
      obtain⟨o,ho,hd⟩:=q
      rw[z,hD8.1]at ho
      cases ho
      exact hD8.2.2.2.2 v hd) (λp hp=>nomatch(show p∈([]:List (Addr×Obj))from hp))
    have e9:h9.get? D=some {cls:=.type "list",data:=.seq (List.toArray (its++[y])) (cap+1)}:=by
     rw[hD9];simp
    have I10:Inv σ [(D,{cls:=.type "list",data:=.seq (List.toArray (its++[y])) (cap+1)})] Y6 H8 {s8 with heap:=h9,toks:=s8.toks}:=I9.pins_of λp hp=>by
     have e:p=(D,{cls:=.type "list",data:=.seq (List.toArray (its++[y])) (cap+1)}):=by simpa using hp
     subst e
     exact⟨e9,hD8.2.1,hD8.2.2.1,hD8.2.2.2.1,λv z=>by
      have z':Data.seq (List.toArray (its++[y])) (cap+1)=Data.cell v:=z
      cases z'⟩
    refine⟨m',hm,i+1,ys++[yv],its++[y],cap+1,H8,I10.weak kp.1.symm kp.2,rv.append (.cons r8 .nil),T.keep _ _ _ t8 λb hb o e=>sb.extBut b o (Nat.ne_of_lt (hlt b hb)) e,n8,w8⟩
 exact codeAny_compStart_list (loop _) (T.self _ 0 _ _ _ st₁ (loop _))
theorem uK (hc:X.calm=true) (S:CSc X scope ks) (hi:PI X tg iter wi) (hg:∀C s H fp,PG (cxC X scope C s H fp) tg g) (htt:∀C s H fp,PTs (cxC X scope C s H fp) ifs tt) (he:∀C s H fp,PE (cxC X scope C s H fp) elt te) (hs:∀x,foldedSetIterable iter X.env x=pure x:=by intro _;rfl):PE X (.ListComp elt [⟨tg,iter,ifs,0⟩] scope pos) (qU wi ks g tt te):=by
 intro pins s Y H Q I h;rw[eval_ListComp];refine wpAny_comprehension_free (use:=none) rfl hs (mE (I.cells_of S)) S.kind S.names (thn (hi pins s Y H _ I h) λv s1 h1=>thn h1 λitv s2 h2=>?_);obtain⟨it,fp,tn,J,H2,e,I2,T,st2,f2,W,w0,turn⟩:=h2;subst e;refine mH hc S I2 T st2 f2 (λC s H=>hg C s H fp) (λC s H=>htt C s H fp) (λC s H=>he C s H fp) w0 turn ?_;intro D C H3 s3 m ys I3 hD hC hCL hCz hns fin;refine⟨m,hns,λh' sb=>?_⟩;refine⟨.ref D,upd H3 D (.lst ys),?_,rfl,fin D hD⟩;exact I3.turned (t':=s3.toks) (it:=C) (λb o hb e=>sb.extBut b o hb e) hC hCL (.inr (Nat.le_trans I2.sz hCz)) (λx c e z=>by
  obtain⟨v,o,ho,hd⟩:=I2.cell x c e;exact absurd (lt_of_lt_of_le (Heap.lt_size ho) hCz) (by rw[z];exact Nat.lt_irrefl _)) λp hp z=>absurd (lt_of_lt_of_le (Heap.lt_size (I2.pin p hp).1) hCz) (by rw[z];exact Nat.lt_irrefl _)
theorem AX (hN:X.N.Nodup) (hx:X.N[i]?=some x) (hl:X.env.scope.names.lookup x=some .local) (hc:X.calm=true) (S:CSc X scope ks) (hi:PI X tg iter wi) (hg:∀C s H fp,PG (cxC X scope C s H fp) tg g) (htt:∀C s H fp,PTs (cxC X scope C s H fp) ifs tt) (he:∀C s H fp,PE (cxC X scope C s H fp) elt te) (hsw:swapsWith (.ListComp elt [⟨tg,iter,ifs,0⟩] scope pos) (some (.Name x px)) spos.line X.env=pure true) (hs:∀x,foldedSetIterable iter X.env x=pure x:=by intro _;rfl):PS X (.Assign [.Name x px] (.ListComp elt [⟨tg,iter,ifs,0⟩] scope pos) spos) (wO (qU wi ks g tt te) (qM i)):=by
 intro pins s Y H Q I h;rw[exec_Assign_Name_used _ _ _ _ hsw];refine wpAny_bind (wpAny_standAt (wpAny_bind ?_));show wpAny _ X.A (do let _<-comprehension (.ListComp elt [⟨tg,iter,ifs,0⟩] scope pos) scope X.env _ (newList []) false (eval iter X.env) (some (assign (.Name x px) X.env))) _ _ s;refine wpAny_bind (wpAny_mono (wpAny_comprehension_free (use:=some (assign (.Name x px) X.env)) (Q:=λ_ s'=>SP X pins Q .next s') rfl hs (mE (I.cells_of S)) S.kind S.names
  (thn (hi pins s Y H _ I h) λv s1 h1=>thn h1 λitv s2 h2=>?_)) (λ_ s' hq=>wpAny_pure (wpAny_pure hq)) λ_ _ e=>e)
 obtain⟨it,fp,tn,J,H2,e,I2,T,st2,f2,W,w0,turn⟩:=h2;subst e;refine mH hc S I2 T st2 f2 (λC s H=>hg C s H fp) (λC s H=>htt C s H fp) (λC s H=>he C s H fp) w0 turn ?_;intro D C H3 s3 m ys I3 hD hC hCL hCz hns fin;show wpAny _ X.A (assign (.Name x px) X.env (.ref D)) _ _ _;refine wpAny_assign_Name (oA (v:=.ref D) I3 hN hx (.inl hl) rfl (λs4 I4 ⟨a,sb,ha⟩=>?_) (.inr hl));have hCa:C≠a:=by
  rcases ha with z|z
  ·rw[z];exact hCL
  ·intro q;obtain⟨v,o,ho,hd⟩:=I2.cell x a z;exact absurd (lt_of_lt_of_le (Heap.lt_size ho) hCz) (by rw[q];exact Nat.lt_irrefl _)
 refine⟨m,hns.sameBut sb hCa,λh' sb'=>?_⟩;refine⟨Y.set i (some (.ref D)),upd H3 D (.lst ys),?_,fin D hD⟩;exact I4.turned (t':=s4.toks) (it:=C) (λb o hb e=>sb'.extBut b o hb e) hC hCL (.inr (Nat.le_trans I2.sz hCz)) (λx c e z=>by
   obtain⟨v,o,ho,hd⟩:=I2.cell x c e;exact absurd (lt_of_lt_of_le (Heap.lt_size ho) hCz) (by rw[z];exact Nat.lt_irrefl _)) λp hp z=>absurd (lt_of_lt_of_le (Heap.lt_size (I2.pin p hp).1) hCz) (by rw[z];exact Nat.lt_irrefl _)
end
section
variable {κ:Type} [DecidableEq κ]
def pO (kvs:List (κ×V)) (k:κ):Option V:=(kvs.find? λkv=>decide (kv.1=k)).map (·.2)
def je (kvs:List (κ×V)) (k:κ) (v:V):List (κ×V):=
 if(kvs.any λkv=>decide (kv.1=k))=true then kvs.map (λkv=>if kv.1=k then(kv.1,v)else kv)else kvs++[(k,v)]
theorem qV {k:κ} (e:p.1=k):pO (p::r) k=some p.2:=by simp[pO,List.find?_cons,e]
theorem qW {k:κ} (e:¬p.1=k):pO (p::r) k=pO r k:=by simp[pO,List.find?_cons,e]
theorem qX (kvs:List (κ×V)) (k:κ) (v:V):(je kvs k v).length<=kvs.length+1:=by
 unfold je;split
 ·rw[length_map];omega
 ·rw[length_append,length_cons,List.length_nil];omega
theorem KV.val (r:KV kvs vs) (k:κ):RelO (pO kvs k) (valueAt vs k):=by
 unfold KV at r;induction r with
 |nil=>exact True.intro
 |@cons p q ps qs h t ih=>
  obtain⟨h1,h2⟩:=h;by_cases e:p.1=k
  ·have e':q.1=k:=h1.symm.trans e;have b:valueAt (q::qs) k=some q.2:=by simp[valueAt,List.find?_cons,e']
   rw[qV e,b];exact h2
  ·have e':¬q.1=k:=λz=>e (h1.trans z);have b:valueAt (q::qs) k=valueAt qs k:=by simp[valueAt,List.find?_cons,e']
   rw[qW e,b];exact ih
theorem KV.any (r:KV kvs vs) (k:κ):(kvs.any λkv=>decide (kv.1=k))=vs.any λkv=>decide (kv.1=k):=by
 unfold KV at r;induction r with
 |nil=>rfl
 |cons h t ih=>rw[List.any_cons,List.any_cons,ih,h.1]
theorem KV.repl (r:KV kvs vs) (k:κ) (ry:RelV y u):
  KV (kvs.map λkv=>if kv.1=k then(kv.1,y)else kv) (vs.map λkv=>if kv.1=k then(kv.1,u)else kv):=by
 unfold KV at r⊢
 induction r with
 |nil=>exact .nil
 |@cons p q ps qs h t ih=>
  rw[List.map_cons,List.map_cons];refine .cons ?_ ih;obtain⟨h1,h2⟩:=h;by_cases e:p.1=k
  ·rw[if_pos e,if_pos (h1.symm.trans e)];exact⟨h1,ry⟩
  ·rw[if_neg e,if_neg (λz=>e (h1.trans z))];exact⟨h1,h2⟩
theorem KV.put (r:KV kvs vs) (k:κ) (ry:RelV y u):KV (je kvs k y) (stored vs k u):=by
 unfold je stored;rw[r.any k];by_cases e:(vs.any λkv=>decide (kv.1=k))=true
 ·rw[if_pos e,if_pos e];exact r.repl k ry
 ·rw[if_neg e,if_neg e];exact Paired.snoc r ⟨rfl,ry⟩
theorem KV.length {vs:List (κ×Value)} (r:KV kvs vs):kvs.length=vs.length:=Paired.length r
end
theorem CW (r:RelV (kV k) u):(bY P w).is k u=true:=by
 cases k with
 |inl i=>obtain⟨t,e⟩:=(show∃t,u=Value.int i t from r);subst e;exact qK P w i t
 |inr x=>obtain⟨t,e⟩:=(show∃t,u=Value.str x t from r);subst e;exact qL P w x t
section
variable {P:Program} {w:World} {H:Hp} {h:Heap} {a:Addr}
theorem GX (ok:HOk P w H h) (e:Rd H a u):ObjOk P w H h a u:=e.ok ok
theorem oM (ok:HOk P w H h) (e:Rd H a (.dK kvs)):kvs.length<=sizeLine/\(a==sysModules)=false/\∃vs,KV kvs vs/\h.DictOf (bY P w) a vs:=
 show ObjOk P w H h a (.dK kvs)from GX ok e
theorem GY (ok:HOk P w H h) (e:H a=some (.dK kvs)):kvs.length<=sizeLine/\(a==sysModules)=false/\∃vs,KV kvs vs/\h.DictOf (bY P w) a vs:=oM ok (.inl e)
end
section
variable {X:Cx} {pins:List (Addr×Obj)} {Y:St} {H:Hp} {s:Shared} {a:Addr} {y v:V} {u r:Value} {o:Option V} {A:Around} {E:Value->Shared->Prop}
theorem Inv.big (I:Inv X pins Y H s):sysModules<s.heap.objs.size:=by
 have h:mainGlobals<s.heap.objs.size:=(I.mod.glob.keeps I.bk).lt;exact Nat.lt_trans (by decide) h
theorem AY (I:Inv X pins Y H s) (mu:Mut (H a)) (hs:Heap.SameBut a s.heap h') (he:∃q,h'.get? a=some q) (new:ObjOk X.prog X.w (upd H a ob) h' a ob):
  Inv X pins Y (upd H a ob) {s with heap:=h',toks:=t'}:=
 I.write (x:=a) (e:=a) mu (.inl rfl) (λb q hb z=>(hs.2 b hb).trans z) he new
theorem DZ (z:kvs.length<=sizeLine) (hd:(a==sysModules)=false) (rel:KV kvs vs) (dd:h'.DictOf (bY P w) a vs):
 ObjOk P w H' h' a (.dK kvs):=⟨z,hd,vs,rel,dd⟩
end
section
variable {X:Cx} {pins:List (Addr×Obj)} {Y:St} {H:Hp} {s:Shared} {a:Addr} {kvs:List (Key×V)} {k:Key} {u:Value} {A:Around} {E:Value->Shared->Prop}
theorem GZ (I:Inv X pins Y H s) (e:Rd H a (.dK kvs)) (h:∀t s',Inv X pins Y H s'->Q (.int kvs.length t) s'):wpAny (model X.prog X.w) A (call (.builtin "len") [.ref a]) Q E s:=by
 obtain⟨z,hd,vs,rel,dd⟩:=oM I.hok e;refine call_len_dict hd dd (by rw[<-rel.length];rw[sizeLine_eq]at z;omega) ?_;rw[<-rel.length];exact h _ _ (I.tok _)
end
section
variable {X:Cx} {o i e value:Expr} {pos pos' tpos:Pos} {td ty tv:TE}
end
theorem xo (h:Heap) (hb:sysModules<h.objs.size):ObjOk P w H (h.push {cls:=.type "dict",data:=.dict #[]}) h.objs.size (.dK []):=
 ⟨Nat.zero_le _,beq_eq_false_iff_ne.mpr (Ne.symm (Nat.ne_of_lt hb)),[],.nil,Heap.DictOf.new h⟩
def D0:TE:=λ_ H Q=>∀p,H p=none->Q (.ref p) (upd H p (.dK []))
section
variable {X:Cx} {pos:Pos}
theorem pe_dnewK:PE X (.Dict [] [] pos) D0:=λpins s Y H Q I h=>
 wpAny_Dict_empty ⟨.ref s.heap.objs.size,_,I.laid (a:=s.heap.objs.size) (o:=.dK []) (t':=s.toks) (λ_ _ q=>Heap.get?_push_of_some _ q) (le_refl _) (xo s.heap I.big),rfl,h _ (I.hok.fresh (le_refl _))⟩
end
section
variable {X:Cx}
end
inductive D where
 |non
 |bl (b:Bool)
 |int (i:Int)
 |str (x:Str)
 |ty (n:String)
 |adr (a:Addr)
 |tup (ds:List D)
 |lst (ds:List D)
 |obj (C:Str) (ns:List Str) (ds:List D)
 |dct (ks:List Key) (ds:List D)
mutual
def Is (K:Frag) (H:Hp):D->V->Prop
 |.non,v=>v=.non
 |.bl b,v=>v=.bl b
 |.int i,v=>v=.int i
 |.str x,v=>v=.str x
 |.ty n,v=>v=.ty n
 |.adr a,v=>v=.ref a
 |.tup ds,v=>∃a xs,v=.ref a/\SqT K H a xs/\IsL K H ds xs
 |.lst ds,v=>∃a xs,v=.ref a/\SqL K H a xs/\IsL K H ds xs
 |.obj C ns ds,v=>∃a Ca dx fs,v=.ref a/\nsIn K mainGlobals C=some (some (.ref Ca))/\H a=some (.ins Ca dx fs)/\fs.map (·.1)=ns/\IsL K H ds (fs.map (·.2))
 |.dct ks ds,v=>∃a kvs,v=.ref a/\Rd H a (.dK kvs)/\kvs.map (·.1)=ks/\IsL K H ds (kvs.map (·.2))
def IsL (K:Frag) (H:Hp):List D->List V->Prop
 |[],xs=>xs=[]
 |d::ds,xs=>∃x r,xs=x::r/\Is K H d x/\IsL K H ds r
end
theorem Same.seqT {K} (e:Same H H') (h:SqT K H a xs):SqT K H' a xs:=by
 rcases h with(h|⟨o,h⟩)|h
 ·exact .inl (.inl (e _ _ h))
 ·exact .inl (.inr ⟨o,e _ _ h⟩)
 ·exact .inr h
theorem Same.rd (e:Same H H') (h:Rd H a u):Rd H' a u:=by
 rcases h with h|⟨o,h⟩
 ·exact .inl (e _ _ h)
 ·exact .inr ⟨o,e _ _ h⟩
mutual
theorem Is.mono {K:Frag} {H H':Hp} (s:Same H H'):∀ (d:D) (v:V),Is K H d v->Is K H' d v
 |.non,_,h=>h
 |.bl _,_,h=>h
 |.int _,_,h=>h
 |.str _,_,h=>h
 |.ty _,_,h=>h
 |.adr _,_,h=>h
 |.tup ds,_,⟨a,xs,e,q,l⟩=>⟨a,xs,e,s.seqT q,IsL.mono s ds xs l⟩
 |.lst ds,_,⟨a,xs,e,q,l⟩=>⟨a,xs,e,s.seq q,IsL.mono s ds xs l⟩
 |.obj _ _ ds,_,⟨a,Ca,dx,fs,e,c,q,z,l⟩=>⟨a,Ca,dx,fs,e,c,s _ _ q,z,IsL.mono s ds _ l⟩
 |.dct _ ds,_,⟨a,kvs,e,q,z,l⟩=>⟨a,kvs,e,s.rd q,z,IsL.mono s ds _ l⟩
theorem IsL.mono {K:Frag} {H H':Hp} (s:Same H H'):∀ (ds:List D) (xs:List V),IsL K H ds xs->IsL K H' ds xs
 |[],_,h=>h
 |d::ds,_,⟨x,r,e,h,l⟩=>⟨x,r,e,Is.mono s d x h,IsL.mono s ds r l⟩
end
theorem IsL.paired {K}:∀ {ds:List D} {xs:List V},IsL K H ds xs->Paired (Is K H) ds xs
 |[],_,h=>by cases(show _=[]from h);exact .nil
 |_::_,_,⟨_,_,e,h,l⟩=>by cases e;exact .cons h (IsL.paired l)
theorem IsL.of {K}:∀ {ds:List D} {xs:List V},Paired (Is K H) ds xs->IsL K H ds xs
 |_,_,.nil=>rfl
 |_,_,.cons h l=>⟨_,_,rfl,h,IsL.of l⟩
theorem IsL.len {K} (h:IsL K H ds xs):ds.length=xs.length:=Paired.length h.paired
theorem mI:∀ {a c:List α} {b d:List β},Paired F a b->Paired F c d->Paired F (a++c) (b++d)
 |_,_,_,_,.nil,h=>h
 |_,_,_,_,.cons h l,q=>.cons h (mI l q)
theorem fJ:∀ {a:List α} {b:List β} {i:Nat} {x:α},Paired F a b->a[i]?=some x->∃y,b[i]?=some y/\F x y
 |_,_,_,_,.nil,e=>by simp at e
 |_,_,0,_,.cons h _,e=>by simp at e;subst e;exact⟨_,rfl,h⟩
 |_,_,i+1,_,.cons _ l,e=>by
  obtain⟨y,h1,h2⟩:=fJ (i:=i) l (by simpa using e);exact⟨y,by simpa using h1,h2⟩
theorem paired_get':∀ {a:List α} {b:List β} {i:Nat} {y:β},Paired F a b->b[i]?=some y->∃x,a[i]?=some x/\F x y
 |_,_,_,_,.nil,e=>by simp at e
 |_,_,0,_,.cons h _,e=>by simp at e;subst e;exact⟨_,rfl,h⟩
 |_,_,i+1,_,.cons _ l,e=>by
  obtain⟨y,h1,h2⟩:=paired_get' (i:=i) l (by simpa using e);exact⟨y,by simpa using h1,h2⟩
theorem mJ {x:α} {y:β} (h:F x y):∀ {a:List α} {b:List β} (i:Nat),Paired F a b->Paired F (a.set i x) (b.set i y)
 |_,_,_,.nil=>.nil
 |_,_,0,.cons _ l=>.cons h l
 |_,_,i+1,.cons q l=>.cons q (mJ h i l)
theorem IsL.app {K} (h:IsL K H ds xs) (q:IsL K H es ys):IsL K H (ds++es) (xs++ys):=.of (mI h.paired q.paired)
theorem IsL.get {K} {i:Nat} (h:IsL K H ds xs) (e:ds[i]?=some d):∃x,xs[i]?=some x/\Is K H d x:=fJ h.paired e
theorem IsL.get' {K} {i:Nat} (h:IsL K H ds xs) (e:xs[i]?=some x):∃d,ds[i]?=some d/\Is K H d x:=paired_get' h.paired e
def msk (O:Addr->Bool) (H:Hp):Hp:=λb=>if O b=true then none else H b
theorem aD (h:msk O H b=some o):O b=false/\H b=some o:=by
 unfold msk at h;split at h
 ·cases h
 ·rename_i q;exact⟨by simpa using q,h⟩
theorem aK (h:O b=false):msk O H b=H b:=by unfold msk;rw[if_neg (by simp[h])]
theorem msk_le:Same (msk O H) H:=λ_ _ h=>(aD h).2
theorem Same.msk (s:Same H H'):Same (msk O H) (msk O H'):=λb o h=>by
 obtain⟨h1,h2⟩:=aD h;rw[aK h1];exact s b o h2
theorem fK (h:O a=true):msk O (upd H a o)=msk O H:=by
 funext b;unfold L2.msk;by_cases hb:b=a
 ·subst hb;rw[if_pos h,if_pos h]
 ·rw[ag hb]
theorem lX (h:O a=false):msk O (upd H a o)=upd (msk O H) a o:=by
 funext b;by_cases hb:b=a
 ·subst hb;rw[aK h,upd_same,upd_same]
 ·rw[ag hb];unfold L2.msk;rw[ag hb]
theorem Same.new (h:H a=none):Same H (upd H a o):=λb u q=>by rw[ag (ak q h)];exact q
theorem Is.full {K} (h:Is K (msk O H) d v):Is K H d v:=Is.mono msk_le d v h
theorem IsL.full {K} (h:IsL K (msk O H) d v):IsL K H d v:=IsL.mono msk_le d v h
abbrev Vv:=List (Option D)
def Hid (o:Option HO):Prop:=(∃xs,o=some (.lst xs))\/(∃C dx fs,o=some (.ins C dx fs))\/∃kvs,o=some (.dK kvs)
theorem Hid.ne (h:Hid o):o≠none:=by
 rcases h with⟨xs,e⟩|⟨C,dx,fs,e⟩|⟨kvs,e⟩<;>rw[e]<;>simp
theorem Hid.same (s:Same H H') (h:Hid (H b)):Hid (H' b):=by
 rcases h with⟨xs,e⟩|⟨C,dx,fs,e⟩|⟨kvs,e⟩
 ·exact .inl ⟨xs,s _ _ e⟩
 ·exact .inr (.inl ⟨C,dx,fs,s _ _ e⟩)
 ·exact .inr (.inr ⟨kvs,s _ _ e⟩)
structure VE (K:Frag) (O:Addr->Bool) (Y:St) (H:Hp) (U:Vv):Prop where
 lis:∀b,O b=true->Hid (H b)
 len:Y.length=U.length
 sh:∀ (i:Nat) (d:D),U[i]?=some (some d)->∃v,Y[i]?=some (some v)/\Is K (msk O H) d v
section
variable {K:Frag} {O:Addr->Bool} {Y:St} {H H':Hp} {U:Vv}
theorem VE.dom (E:VE K O Y H U):∀b,O b=true->H b≠none:=λb h=>(E.lis b h).ne
theorem VE.grow (E:VE K O Y H U) (s:Same H H'):VE K O Y H' U where
 lis:=λb h=>(E.lis b h).same s
 len:=E.len
 sh:=λi d h=>let⟨v,e,q⟩:=E.sh i d h;⟨v,e,Is.mono s.msk d v q⟩
theorem gy (hd:∀b,O b=true->H b≠none) (h:H p=none):O p=false:=by
 cases e:O p with
 |false=>rfl
 |true=>exact absurd h (hd p e)
theorem VE.fresh (E:VE K O Y H U) (h:H p=none):O p=false:=gy E.dom h
theorem get_set_some {α:Type} {l:List (Option α)} {x} {y} (h:(l.set i x)[j]?=some (some y)):(j=i/\x=some y)\/(j≠i/\l[j]?=some (some y)):=by
 by_cases hj:i=j
 ·subst hj;rw[List.getElem?_set]at h;simp only[if_true]at h;split at h
  ·exact .inl ⟨rfl,Option.some.inj h⟩
  ·cases h
 ·rw[List.getElem?_set_ne hj]at h;exact .inr ⟨Ne.symm hj,h⟩
theorem oN {α:Type} {l:List (Option α)} {x} {y} (h:(l.set i x)[i]?=some y):i<l.length:=by
 have:=(List.getElem?_eq_some_iff.mp h).1;simpa using this
theorem VE.set (E:VE K O Y H U) {i:Nat} {d:D} {v:V} (h:Is K (msk O H) d v):VE K O (Y.set i (some v)) H (U.set i (some d)) where
 lis:=E.lis
 len:=by simpa using E.len
 sh:=λj d' q=>by
  rcases get_set_some q with⟨e,q'⟩|⟨e,q'⟩
  ·cases q';subst e;have hi:j<Y.length:=by rw[E.len];exact oN q
   exact⟨v,by simp[hi],h⟩
  ·obtain⟨v',e',q2⟩:=E.sh j d' q';exact⟨v',by rw[List.getElem?_set_ne (Ne.symm e)];exact e',q2⟩
theorem wipe_iff {Y} {v:α}:(dI ks Y)[i]?=some (some v)↔Y[i]?=some (some v)/\i ∉ ks:=⟨mG ks Y i v,λh=>qT ks Y i v h.1 h.2⟩
theorem VE.wiped (E:VE K O Y H U) (ks:List Nat):VE K O (dI ks Y) H (dI ks U) where
 lis:=E.lis
 len:=by rw[jd,jd];exact E.len
 sh:=λi d q=>by
  obtain⟨q1,q2⟩:=wipe_iff.mp q;obtain⟨v,e,r⟩:=E.sh i d q1;exact⟨v,wipe_iff.mpr ⟨e,q2⟩,r⟩
end
def tP (K:Frag) (O:Addr->Bool) (U:Vv) (o:Option D):TE:=λY H Q=>VE K O Y H U/\∃d,o=some d/\∀v H',Same H H'->Is K (msk O H') d v->Q v H'
def tPF (K:Frag) (O:Addr->Bool) (U:Vv) (o:Option (List D)):TE:=λY H Q=>VE K O Y H U/\∃ds,o=some ds/\∀p xs H',Same H H'->H' p=none->IsL K (msk O H') ds xs->Q (.ref p) (upd H' p (.lst xs))
def tPT (K:Frag) (O:Addr->Bool) (U:Vv) (o:Option Bool):TT:=λY H Q=>VE K O Y H U/\∃b,o=some b/\∀H',Same H H'->Q b H'
def tPA (K:Frag) (O:Addr->Bool) (U:Vv) (o:Option (List D)):TA:=λY H Q=>VE K O Y H U/\∃ds,o=some ds/\∀vs H',Same H H'->IsL K (msk O H') ds vs->Q vs H'
def PP (X:Cx) (e:Expr) (f:Vv->Option D):Prop:=∀O U,PE X e (tP X.K O U (f U))
def PF (X:Cx) (e:Expr) (f:Vv->Option (List D)):Prop:=∀O U,PE X e (tPF X.K O U (f U))
def PQ (X:Cx) (e:Expr) (f:Vv->Option Bool):Prop:=∀O U,PT X e (tPT X.K O U (f U))
def PX (X:Cx) (es:List Expr) (f:Vv->Option (List D)):Prop:=∀O U,PA X es (tPA X.K O U (f U))
theorem PF.pp (h:PF X e f):PP X e (λU=>(f U).map D.lst):=λO U=>(h O U).imp λY H Q ⟨E,d,e,k⟩=>by
 cases q:f U with
 |none=>exact absurd (show(f U).map D.lst=some d from e) (by rw[q];intro z;cases z)
 |some ds=>
  have e':(f U).map D.lst=some d:=e;rw[q]at e';cases e';refine⟨E,ds,rfl,λp xs H' s hp l=>?_⟩;have hO:=(E.grow s).fresh hp;refine k _ _ (s.trans (Same.new hp)) ⟨p,xs,rfl,.of (by rw[aK hO,upd_same]),?_⟩;exact IsL.mono (by rw[lX hO];exact Same.new (by rw[aK hO];exact hp)) _ _ l
def eJ (U:Vv) (i:Nat):Option D:=match U[i]? with
 |some (some d)=>some d
 |_=>none
theorem eU (h:eJ U i=some d):U[i]?=some (some d):=by
 unfold eJ at h;split at h
 ·cases h;assumption
 ·cases h
section
variable {X:Cx} {pos:Pos}
theorem mK (i:Nat) (hN:X.N[i]?=some x:=by rfl) (hv:Vis X.env.scope x:=by first|exact Or.inl rfl|exact Or.inr (Or.inl rfl)|exact Or.inr (Or.inr rfl)) (hd:(x==("__debug__":Str))=false:=by decide) (hcd:(x==("__classdict__":Str))=false:=by decide):PP X (.Name x pos) (λU=>eJ U i):=λO U=>(b7 hN hv hd hcd).imp λY H Q ⟨E,d,e,k⟩=>by
 obtain⟨v,e1,e2⟩:=E.sh i d (eU e);exact⟨v,e1,k v H (Same.refl _) e2⟩
theorem pp_int:PP X (.Constant (.int i) j pos) (λ_=>some (.int i)):=λO U=>pe_int.imp λY H Q ⟨E,d,e,k⟩=>by
 cases e;exact k _ H (Same.refl _) rfl
theorem pp_bl:PP X (.Constant (.bool b) j pos) (λ_=>some (.bl b)):=λO U=>pe_bl.imp λY H Q ⟨E,d,e,k⟩=>by
 cases e;exact k _ H (Same.refl _) rfl
theorem pp_non:PP X (.Constant .none j pos) (λ_=>some .non):=λO U=>pe_non.imp λY H Q ⟨E,d,e,k⟩=>by
 cases e;exact k _ H (Same.refl _) rfl
theorem pp_str:PP X (.Constant (.str x) j pos) (λ_=>some (.str x)):=λO U=>pe_str.imp λY H Q ⟨E,d,e,k⟩=>by
 cases e;exact k _ H (Same.refl _) rfl
theorem Ha (hg:Gl X x) (hm:X.mg x=none) (hv:bootBuiltins x=some (.type n)) (hn:x≠"__name__":=by decide) (hd:(x==("__debug__":Str))=false:=by decide):PP X (.Name x pos) (λ_=>some (.ty n)):=
 λO U=>(uC (v:=.ty n) hg hm hv rfl hn hd).imp λY H Q ⟨E,d,e,k⟩=>by
 cases e;exact k _ H (Same.refl _) rfl
theorem AZ (hg:Gl X x) (hm:X.mg x=some u) (r:RelV v u) (h:∀H,Is X.K H d v) (hd:(x==("__debug__":Str))=false:=by decide):PP X (.Name x pos) (λ_=>some d):=
 λO U=>(uB hg hm r hd).imp λY H Q ⟨E,d',e,k⟩=>by
 cases e;exact k _ H (Same.refl _) (h _)
def R2D (K:Frag) (r:R2) (g:D->D->Option D):Prop:=∀ (O:Addr->Bool) (H:Hp) (x y:V) (dx dy d:D) (Q:VK),(∀b,O b=true->H b≠none)->Is K (msk O H) dx x->Is K (msk O H) dy y->g dx dy=some d->
 (∀v H',Same H H'->Is K (msk O H') d v->Q v H')->r x y H Q
def af (g:D->D->Option D) (fa fb:Vv->Option D):Vv->Option D:=λU=>(fa U).bind λx=>(fb U).bind λy=>g x y
theorem bind_some {α β:Type} {o} {f:α->Option β} {b} (h:o.bind f=some b):∃a,o=some a/\f a=some b:=by
 cases o with
 |none=>cases h
 |some a=>exact⟨a,rfl,h⟩
theorem lY (hr:R2D X.K r g) (h:tP X.K O U (af g fa fb U) Y H Q):
  tOp r (tP X.K O U (fa U)) (tP X.K O U (fb U)) Y H Q:=by
 obtain⟨E,d,e,k⟩:=h
 obtain⟨dx,e1,e⟩:=bind_some e
 obtain⟨dy,e2,e3⟩:=bind_some e
 refine⟨E,dx,e1,λx H1 s1 i1=>⟨E.grow s1,dy,e2,λy H2 s2 i2=>?_⟩⟩
 exact hr O H2 x y dx dy d Q (E.grow (s1.trans s2)).dom (Is.mono s2.msk dx x i1) i2 e3 λv H' s3 i3=>k v H' (s1.trans (s2.trans s3)) i3
theorem mL (ho:OpR X (binaryOp op) r) (hr:R2D X.K r g) (ha:PP X a fa) (hb:PP X b fb):PP X (.BinOp a op b pos) (af g fa fb):=
 λO U=>(CP ho (ha O U) (hb O U)).imp λY H Q h=>lY hr h
theorem pp_cmp (ho:OpR X (compareOp op) r) (hr:R2D X.K r g) (ha:PP X a fa) (hb:PP X b fb) (hm:behindInMarks op b=false):PP X (.Compare a [op] [b] pos) (af g fa fb):=
 λO U=>(AI ho (ha O U) (hb O U) hm).imp λY H Q h=>lY hr h
def D.asB:D->Option Bool
 |.bl b=>some b
 |_=>none
theorem asB_some {d:D} (h:d.asB=some b):d=.bl b:=by
 cases d<;>first|(cases h;rfl)|cases h
def au (f:Vv->Option D):Vv->Option Bool:=λU=>(f U).bind D.asB
theorem pq_cmp (ho:OpR X (compareOp op) r) (hr:R2D X.K r g) (ha:PP X a fa) (hb:PP X b fb) (hm:behindInMarks op b=false):PQ X (.Compare a [op] [b] pos) (au (af g fa fb)):=
 λO U=>(AJ ho (ha O U) (hb O U) hm).imp λY H Q h=>by
 obtain⟨E,b,e,k⟩:=h
 obtain⟨d,e1,e2⟩:=bind_some e
 cases asB_some e2
 refine lY hr ⟨E,.bl b,e1,λv H' s i=>?_⟩
 cases(show v=.bl b from i)
 exact⟨b,rfl,k H' s⟩
def fL (g g':D->D->Option D) (fa fb fc:Vv->Option D):Vv->Option D:=λU=>(fa U).bind λx=>(fb U).bind λy=>(g x y).bind λz=>z.asB.bind λk=>if k=true then(fc U).bind λw=>g' y w else some (.bl false)
theorem oO (hr:R2D X.K r g) (hr':R2D X.K r' g') (h:tP X.K O U (fL g g' fa fb fc U) Y H Q):
  sM r r' (tP X.K O U (fa U)) (tP X.K O U (fb U)) (tP X.K O U (fc U)) Y H Q:=by
 obtain⟨E,d,ea,k⟩:=h
 obtain⟨dx,e1,eb⟩:=bind_some ea
 obtain⟨dy,e2,ec⟩:=bind_some eb
 obtain⟨dz,e3,ed⟩:=bind_some ec
 obtain⟨b,e4,e⟩:=bind_some ed
 clear ea eb ec ed
 cases asB_some e4
 refine⟨E,dx,e1,λx H1 s1 i1=>⟨E.grow s1,dy,e2,λy H2 s2 i2=>?_⟩⟩
 refine hr O H2 x y dx dy _ _ (E.grow (s1.trans s2)).dom (Is.mono s2.msk dx x i1) i2 e3 λv H3 s3 i3=>⟨b,i3,?_⟩
 cases b with
 |true=>
  rw[if_pos rfl]at e⊢;obtain⟨dw,e5,e6⟩:=bind_some e;refine⟨E.grow (s1.trans (s2.trans s3)),dw,e5,λw' H4 s4 i4=>?_⟩;exact hr' O H4 y w' dy dw d Q (E.grow (s1.trans (s2.trans (s3.trans s4)))).dom (Is.mono (s3.trans s4).msk dy y i2) i4 e6 λv' H5 s5 i5=>k v' H5 (s1.trans (s2.trans (s3.trans (s4.trans s5)))) i5
 |false=>
  rw[if_neg Bool.false_ne_true]at e⊢;cases e;exact k _ H3 (s1.trans (s2.trans s3)) rfl
theorem xp (ho:OpR X (compareOp op) r) (ho':OpR X (compareOp op') r') (hr:R2D X.K r g) (hr':R2D X.K r' g') (ha:PP X a fa) (hb:PP X b fb) (hc:PP X c fc) (hm:lastMarks [op,op'] [b,c]=false:=by with_unfolding_all rfl):PP X (.Compare a [op,op'] [b,c] pos) (fL g g' fa fb fc):=λO U=>(wS ho ho' (ha O U) (hb O U) (hc O U) hm).imp λY H Q h=>oO hr hr' h
theorem xq (ho:OpR X (compareOp op) r) (ho':OpR X (compareOp op') r') (hr:R2D X.K r g) (hr':R2D X.K r' g') (ha:PP X a fa) (hb:PP X b fb) (hc:PP X c fc) (hm:lastMarks [op,op'] [b,c]=false:=by with_unfolding_all rfl):PQ X (.Compare a [op,op'] [b,c] pos) (au (fL g g' fa fb fc)):=λO U=>(wT ho ho' (ha O U) (hb O U) (hc O U) hm).imp λY H Q h=>by
 obtain⟨E,b,e,k⟩:=h;obtain⟨d,e1,e2⟩:=bind_some e;cases asB_some e2;refine oO hr hr' ⟨E,.bl b,e1,λv H' s i=>?_⟩;cases(show v=.bl b from i);exact⟨b,rfl,k H' s⟩
def Hb:D->D->Option D
 |.int i,.int j=>some (.int (i+j))
 |_,_=>none
def lm:D->D->Option D
 |.int i,.int j=>some (.int (i-j))
 |_,_=>none
instance (i j:Int):Decidable (CMul i j):=Classical.propDecidable _
def xu (_ j:Int):Prop:=0<j/\j.natAbs.log2<9000
instance (i j:Int):Decidable (xu i j):=Classical.propDecidable _
theorem A3:OpR X (binaryOp .FloorDiv) (rI xu λi j=>.int (i/j)):=opI λi j _ _ _ _ _ hc q=>by
 have h1:(0:Int)<j:=hc.1;exact floordiv_int (by omega) (by rw[Int.fdiv_eq_ediv_of_nonneg i (by omega)];exact q) (.inl (PyProof.noPylong_of_log2 hc.2))
instance (i j:Int):Decidable (wR i j):=Classical.propDecidable _
def cW:D->D->Option D
 |.int i,.int j=>if CMul i j then some (.int (i*j))else none
 |_,_=>none
def dJ:D->D->Option D
 |.int i,.int j=>if xu i j then some (.int (i/j))else none
 |_,_=>none
def aM:D->D->Option D
 |.int i,.int j=>if 0<j then some (.int (i%j))else none
 |_,_=>none
def cu:D->D->Option D
 |.int i,.int j=>if wR i j then some (.int (i^j.toNat))else none
 |_,_=>none
def bE:List D->Option (List Int)
 |[]=>some []
 |.int i::ds=>(bE ds).bind λxs=>some (i::xs)
 |_::_=>none
def ltI:D->D->Option D
 |.int i,.int j=>some (.bl (decide (i<j)))
 |_,_=>none
def ltT:D->D->Option D
 |.tup ds,.tup es=>(bE ds).bind λxs=>(bE es).bind λys=>some (.bl (HT.lexLt xs ys))
 |_,_=>none
def ltD (x y:D):Option D:=match ltI x y with
 |some d=>some d
 |none=>ltT x y
def leD:D->D->Option D
 |.int i,.int j=>some (.bl (decide (i<=j)))
 |_,_=>none
def gtD:D->D->Option D
 |.int i,.int j=>some (.bl (decide (j<i)))
 |_,_=>none
def geD:D->D->Option D
 |.int i,.int j=>some (.bl (decide (j<=i)))
 |_,_=>none
theorem uL {K} {g:Int->Int->Int} (hf:∀x y d,f x y=some d->∃i j,x=.int i/\y=.int j/\d=.int (g i j)):R2D K (rI0 λi j=>.int (g i j)) f:=λO H x y dx dy d Q _ ix iy e k=>by
 obtain⟨i,j,rfl,rfl,rfl⟩:=hf dx dy d e;exact⟨i,j,ix,iy,k _ H (Same.refl _) rfl⟩
theorem jf {K} {g:Int->Int->Bool} (hf:∀x y d,f x y=some d->∃i j,x=.int i/\y=.int j/\d=.bl (g i j)):R2D K (rI0 λi j=>.bl (g i j)) f:=λO H x y dx dy d Q _ ix iy e k=>by
 obtain⟨i,j,rfl,rfl,rfl⟩:=hf dx dy d e;exact⟨i,j,ix,iy,k _ H (Same.refl _) rfl⟩
theorem lZ {K} {g:Int->Int->Int} (hf:∀x y d,f x y=some d->∃i j,x=.int i/\y=.int j/\C i j/\d=.int (g i j)):R2D K (rI C λi j=>.int (g i j)) f:=λO H x y dx dy d Q _ ix iy e k=>by
 obtain⟨i,j,rfl,rfl,hc,rfl⟩:=hf dx dy d e;exact⟨i,j,ix,iy,hc,k _ H (Same.refl _) rfl⟩
theorem eK {f:Int->Int->Option D} {x y d:D} (h:(match x,y with|.int i,.int j=>f i j|_,_=>none)=some d):∃i j,x=.int i/\y=.int j/\f i j=some d:=by
 cases x<;>cases y<;>first|exact⟨_,_,rfl,rfl,h⟩|cases h
theorem Hc {K}:R2D K (rI0 λi j=>.int (i+j)) Hb:=uL λx y d e=>by
 obtain⟨i,j,h1,h2,e⟩:=eK (f:=λi j=>some (.int (i+j))) e;cases e;exact⟨_,_,h1,h2,rfl⟩
theorem He {K}:R2D K (rI0 λi j=>.int (i-j)) lm:=uL λx y d e=>by
 obtain⟨i,j,h1,h2,e⟩:=eK (f:=λi j=>some (.int (i-j))) e;cases e;exact⟨_,_,h1,h2,rfl⟩
theorem ay {α:Type} [Decidable c] {a b:α} (h:(if c then some a else none)=some b):c/\a=b:=by
 split at h
 ·exact⟨by assumption,Option.some.inj h⟩
 ·cases h
theorem Hf {K}:R2D K (rI CMul λi j=>.int (i*j)) cW:=lZ λx y d e=>by
 obtain⟨i,j,h1,h2,e⟩:=eK (f:=λi j=>if CMul i j then some (.int (i*j))else none) e;obtain⟨c,e⟩:=ay e;cases e;exact⟨_,_,h1,h2,c,rfl⟩
theorem Hg {K}:R2D K (rI xu λi j=>.int (i/j)) dJ:=lZ λx y d e=>by
 obtain⟨i,j,h1,h2,e⟩:=eK (f:=λi j=>if xu i j then some (.int (i/j))else none) e;obtain⟨c,e⟩:=ay e;cases e;exact⟨_,_,h1,h2,c,rfl⟩
theorem Hh {K}:R2D K (rI (λ_ j=>0<j) λi j=>.int (i%j)) aM:=lZ λx y d e=>by
 obtain⟨i,j,h1,h2,e⟩:=eK (f:=λi j=>if 0<j then some (.int (i%j))else none) e;obtain⟨c,e⟩:=ay e;cases e;exact⟨_,_,h1,h2,c,rfl⟩
theorem Hi {K}:R2D K (rI wR λi j=>.int (i^j.toNat)) cu:=lZ λx y d e=>by
 obtain⟨i,j,h1,h2,e⟩:=eK (f:=λi j=>if wR i j then some (.int (i^j.toNat))else none) e;obtain⟨c,e⟩:=ay e;cases e;exact⟨_,_,h1,h2,c,rfl⟩
theorem r_ltI {K}:R2D K (rI0 λi j=>.bl (decide (i<j))) ltI:=jf λx y d e=>by
 obtain⟨i,j,h1,h2,e⟩:=eK (f:=λi j=>some (.bl (decide (i<j)))) e;cases e;exact⟨_,_,h1,h2,rfl⟩
theorem vZ {K}:R2D K (rI0 λi j=>.bl (decide (i<=j))) leD:=jf λx y d e=>by
 obtain⟨i,j,h1,h2,e⟩:=eK (f:=λi j=>some (.bl (decide (i<=j)))) e;cases e;exact⟨_,_,h1,h2,rfl⟩
theorem Hj {K}:R2D K (rI0 λi j=>.bl (decide (j<i))) gtD:=jf λx y d e=>by
 obtain⟨i,j,h1,h2,e⟩:=eK (f:=λi j=>some (.bl (decide (j<i)))) e;cases e;exact⟨_,_,h1,h2,rfl⟩
theorem Hk {K}:R2D K (rI0 λi j=>.bl (decide (j<=i))) geD:=jf λx y d e=>by
 obtain⟨i,j,h1,h2,e⟩:=eK (f:=λi j=>some (.bl (decide (j<=i)))) e;cases e;exact⟨_,_,h1,h2,rfl⟩
theorem ce {K}:∀ {ds:List D} {ns:List Int} {xs:List V},bE ds=some ns->IsL K H ds xs->xs=ns.map V.int
 |[],ns,xs,e,h=>by cases e;exact h
 |.int i::ds,ns,xs,e,⟨x,r,e1,h1,l⟩=>by
  obtain⟨ms,e2,e3⟩:=bind_some (show(bE ds).bind (λxs=>some (i::xs))=some ns from e);cases e3;cases(show x=.int i from h1);rw[e1,ce e2 l];rfl
theorem Hl {K}:R2D K (λx y H Q=>rI0 (λi j=>.bl (decide (i<j))) x y H Q\/GR K x y H Q) ltD:=λO H x y dx dy d Q hd ix iy e k=>by
 unfold ltD at e;cases h:ltI dx dy with
 |some z=>rw[h]at e;cases e;exact .inl (r_ltI O H x y dx dy _ Q hd ix iy h k)
 |none=>
  rw[h]at e;have e:ltT dx dy=some d:=e;unfold ltT at e;split at e
  ·obtain⟨ns,e1,e⟩:=bind_some e;obtain⟨ms,e2,e⟩:=bind_some e;cases e;obtain⟨a,xs,rfl,t1,l1⟩:=ix;obtain⟨b,ys,rfl,t2,l2⟩:=iy;rw[ce e1 l1]at t1;rw[ce e2 l2]at t2;exact .inr ⟨a,b,ns,ms,rfl,rfl,msk_le.seqT t1,msk_le.seqT t2,k _ H (Same.refl _) rfl⟩
  ·cases e
theorem A4 (ha:PP X a fa) (hb:PP X b fb):PP X (.BinOp a .Add b pos) (af Hb fa fb):=mL DP Hc ha hb
theorem D1 (ha:PP X a fa) (hb:PP X b fb):PP X (.BinOp a .Sub b pos) (af lm fa fb):=mL DQ He ha hb
theorem D2 (ha:PP X a fa) (hb:PP X b fb):PP X (.BinOp a .Mult b pos) (af cW fa fb):=mL DR Hf ha hb
theorem D3 (ha:PP X a fa) (hb:PP X b fb):PP X (.BinOp a .FloorDiv b pos) (af dJ fa fb):=mL A3 Hg ha hb
theorem D4 (ha:PP X a fa) (hb:PP X b fb):PP X (.BinOp a .Mod b pos) (af aM fa fb):=mL DS Hh ha hb
theorem D5 (ha:PP X a fa) (hb:PP X b fb):PP X (.BinOp a .Pow b pos) (af cu fa fb):=mL DT Hi ha hb
theorem Hn (hu:X.A.units<cLine) (ha:PP X a fa) (hb:PP X b fb):PP X (.Compare a [.Lt] [b] pos) (af ltD fa fb):=pp_cmp (op_lt.or (xb hu)) Hl ha hb (dq _)
theorem Ho (ha:PP X a fa) (hb:PP X b fb):PP X (.Compare a [.LtE] [b] pos) (af leD fa fb):=pp_cmp oB vZ ha hb (dq _)
theorem Hq (ha:PP X a fa) (hb:PP X b fb):PP X (.Compare a [.Gt] [b] pos) (af gtD fa fb):=pp_cmp CQ Hj ha hb (dq _)
theorem Hr (ha:PP X a fa) (hb:PP X b fb):PP X (.Compare a [.GtE] [b] pos) (af geD fa fb):=pp_cmp CS Hk ha hb (dq _)
theorem Hs (hu:X.A.units<cLine) (ha:PP X a fa) (hb:PP X b fb):PQ X (.Compare a [.Lt] [b] pos) (au (af ltD fa fb)):=pq_cmp (op_lt.or (xb hu)) Hl ha hb (dq _)
theorem Ht (ha:PP X a fa) (hb:PP X b fb):PQ X (.Compare a [.LtE] [b] pos) (au (af leD fa fb)):=pq_cmp oB vZ ha hb (dq _)
theorem Hu (ha:PP X a fa) (hb:PP X b fb):PQ X (.Compare a [.Gt] [b] pos) (au (af gtD fa fb)):=pq_cmp CQ Hj ha hb (dq _)
theorem Hv (ha:PP X a fa) (hb:PP X b fb):PQ X (.Compare a [.GtE] [b] pos) (au (af geD fa fb)):=pq_cmp CS Hk ha hb (dq _)
theorem pp_lele (ha:PP X a fa) (hb:PP X b fb) (hc:PP X c fc) (hm:lastMarks [.LtE,.LtE] [b,c]=false:=by with_unfolding_all rfl):PP X (.Compare a [.LtE,.LtE] [b,c] pos) (fL leD leD fa fb fc):=xp oB oB vZ vZ ha hb hc hm
theorem pq_lele (ha:PP X a fa) (hb:PP X b fb) (hc:PP X c fc) (hm:lastMarks [.LtE,.LtE] [b,c]=false:=by with_unfolding_all rfl):PQ X (.Compare a [.LtE,.LtE] [b,c] pos) (au (fL leD leD fa fb fc)):=xq oB oB vZ vZ ha hb hc hm
def nZ (fa fb:Vv->Option D):Vv->Option D:=λU=>(fa U).bind λx=>x.asB.bind λc=>if c=true then fb U else some (.bl false)
def orF (fa fb:Vv->Option D):Vv->Option D:=λU=>(fa U).bind λx=>x.asB.bind λc=>if c=true then some (.bl true)else fb U
def xv (fa:Vv->Option D):Vv->Option D:=λU=>(fa U).bind λx=>x.asB.bind λc=>some (.bl (!c))
def xw (fa fb:Vv->Option Bool):Vv->Option Bool:=λU=>(fa U).bind λc=>if c=true then fb U else some false
def orQ (fa fb:Vv->Option Bool):Vv->Option Bool:=λU=>(fa U).bind λc=>if c=true then some true else fb U
def dY (fa:Vv->Option Bool):Vv->Option Bool:=λU=>(fa U).map (!·)
def ifF (fc:Vv->Option Bool) (fa fb:Vv->Option D):Vv->Option D:=λU=>(fc U).bind λc=>if c=true then fa U else fb U
variable {a b c:Expr} {rest:List Expr}
theorem D6 (h:PP X a f):PP X (.BoolOp op [a] pos) f:=λO U=>DI (h O U)
theorem D7 (ha:PP X a fa) (hb:PP X (.BoolOp .And (b::rest) pos) fb):PP X (.BoolOp .And (a::b::rest) pos) (nZ fa fb):=λO U=>(DJ (ha O U) (hb O U)).imp λY H Q ⟨E,d,e,k⟩=>by
 obtain⟨dx,e1,eb⟩:=bind_some e;obtain⟨c,e2,ec⟩:=bind_some eb;clear e eb;have e:=ec;clear ec;cases asB_some e2;refine⟨E,_,e1,λv H1 s1 i1=>⟨c,i1,?_⟩⟩;cases c with
 |true=>rw[if_pos rfl]at e⊢;exact⟨E.grow s1,d,e,λv' H2 s2 i2=>k v' H2 (s1.trans s2) i2⟩
 |false=>rw[if_neg Bool.false_ne_true]at e⊢;cases e;exact k _ H1 s1 rfl
theorem Hw (ha:PP X a fa) (hb:PP X (.BoolOp .Or (b::rest) pos) fb):PP X (.BoolOp .Or (a::b::rest) pos) (orF fa fb):=λO U=>(Gz (ha O U) (hb O U)).imp λY H Q ⟨E,d,e,k⟩=>by
 obtain⟨dx,e1,eb⟩:=bind_some e;obtain⟨c,e2,ec⟩:=bind_some eb;clear e eb;have e:=ec;clear ec;cases asB_some e2;refine⟨E,_,e1,λv H1 s1 i1=>⟨c,i1,?_⟩⟩;cases c with
 |true=>rw[if_pos rfl]at e⊢;cases e;exact k _ H1 s1 rfl
 |false=>rw[if_neg Bool.false_ne_true]at e⊢;exact⟨E.grow s1,d,e,λv' H2 s2 i2=>k v' H2 (s1.trans s2) i2⟩
theorem D8 (ha:PP X a fa):PP X (.UnaryOp .Not a pos) (xv fa):=λO U=>(DK (ha O U)).imp λY H Q ⟨E,d,e,k⟩=>by
 obtain⟨dx,e1,eb⟩:=bind_some e;obtain⟨c,e2,ec⟩:=bind_some eb;clear e eb;have e:=ec;clear ec;cases asB_some e2;cases e;exact⟨E,_,e1,λv H1 s1 i1=>⟨c,i1,k _ H1 s1 rfl⟩⟩
def PWQ (X:Cx) (e:Expr) (f:Vv->Option Bool):Prop:=∀O U,PW X e (tPT X.K O U (f U))
theorem PWQ.pq (h:PWQ X a f):PQ X a f:=λO U=>(h O U).pt
theorem PW.imp (h:PW X e t) (k:∀Y H Q,t' Y H Q->t Y H Q):PW X e t':=λwh pins s Y H Q I q=>h wh pins s Y H Q I (k _ _ _ q)
theorem pw_and1D (h:PQ X a f):PWQ X (.BoolOp .And [a] pos) f:=λO U=>pw_and1 (h O U)
theorem pw_or1D (h:PQ X a f):PWQ X (.BoolOp .Or [a] pos) f:=λO U=>pw_or1 (h O U)
theorem pw_andD (ha:PQ X a fa) (hb:PWQ X (.BoolOp .And (b::rest) pos) fb):PWQ X (.BoolOp .And (a::b::rest) pos) (xw fa fb):=λO U=>(pw_and (ha O U) (hb O U)).imp λY H Q ⟨E,d,e,k⟩=>by
 obtain⟨c,e1,eb⟩:=bind_some e;clear e;have e:=eb;clear eb;refine⟨E,c,e1,λH1 s1=>?_⟩;cases c with
 |true=>rw[if_pos rfl]at e⊢;exact⟨E.grow s1,d,e,λH2 s2=>k H2 (s1.trans s2)⟩
 |false=>rw[if_neg Bool.false_ne_true]at e⊢;cases e;exact k H1 s1
theorem pw_orD (ha:PQ X a fa) (hb:PWQ X (.BoolOp .Or (b::rest) pos) fb):PWQ X (.BoolOp .Or (a::b::rest) pos) (orQ fa fb):=λO U=>(pw_or (ha O U) (hb O U)).imp λY H Q ⟨E,d,e,k⟩=>by
 obtain⟨c,e1,eb⟩:=bind_some e;clear e;have e:=eb;clear eb;refine⟨E,c,e1,λH1 s1=>?_⟩;cases c with
 |true=>rw[if_pos rfl]at e⊢;cases e;exact k H1 s1
 |false=>rw[if_neg Bool.false_ne_true]at e⊢;exact⟨E.grow s1,d,e,λH2 s2=>k H2 (s1.trans s2)⟩
theorem D9 (ha:PQ X a fa):PQ X (.UnaryOp .Not a pos) (dY fa):=λO U=>(DH (ha O U)).imp λY H Q ⟨E,d,e,k⟩=>by
 unfold dY at e;cases q:fa U with
 |none=>rw[q]at e;cases e
 |some c=>rw[q]at e;cases e;exact⟨E,c,rfl,λH1 s1=>k H1 s1⟩
theorem Hx (hc:PQ X c fc) (ha:PP X a fa) (hb:PP X b fb):PP X (.IfExp c a b pos) (ifF fc fa fb):=λO U=>(wJ (hc O U) (ha O U) (hb O U)).imp λY H Q ⟨E,d,e,k⟩=>by
 obtain⟨c,e1,eb⟩:=bind_some e;clear e;have e:=eb;clear eb;refine⟨E,c,e1,λH1 s1=>?_⟩;cases c with
 |true=>rw[if_pos rfl]at e⊢;exact⟨E.grow s1,d,e,λv' H2 s2 i2=>k v' H2 (s1.trans s2) i2⟩
 |false=>rw[if_neg Bool.false_ne_true]at e⊢;exact⟨E.grow s1,d,e,λv' H2 s2 i2=>k v' H2 (s1.trans s2) i2⟩
def xx:D->Option Bool
 |.bl b=>some b
 |.int i=>some (i !=0)
 |.non=>some false
 |.lst ds=>some (!ds.isEmpty)
 |.tup ds=>some (!ds.isEmpty)
 |_=>none
theorem kO {α β:Type} {a:List α} {b:List β} (h:a.length=b.length):a.isEmpty=b.isEmpty:=by
 cases a<;>cases b<;>first|rfl|simp at h
theorem pq_val (h:PP X a f) (he:∀whole,isTrue a X.env whole=(do let v<-whole;standAt a.pos;holding [v] (truthy v)):=by intro _;rfl):PQ X a (λU=>(f U).bind xx):=λO U=>(wU (h O U) he).imp λY H Q ⟨E,b,e,k⟩=>by
 obtain⟨d,e1,e⟩:=bind_some e;refine⟨E,d,e1,λv H1 s1 i1=>⟨b,?_,k H1 s1⟩⟩;cases d with
 |bl c=>cases e;cases(show v=.bl b from i1);rfl
 |int i=>cases e;cases(show v=.int i from i1);rfl
 |non=>cases e;cases(show v=.non from i1);rfl
 |lst ds=>
  cases e;obtain⟨p,xs,rfl,q,l⟩:=i1;exact .inl ⟨xs,msk_le.seq q,by rw[kO l.len]⟩
 |tup ds=>
  cases e;obtain⟨p,xs,rfl,q,l⟩:=i1;exact .inr (.inl ⟨xs,msk_le.seqT q,by rw[kO l.len]⟩)
 |_=>cases e
end
def big:Nat:=16777216
theorem gz:sizeLine=big:=sizeLine_eq
section
variable {X:Cx} {pos:Pos} {a b c e:Expr} {es:List Expr}
theorem pP:PX X [] (λ_=>some []):=λO U=>pa_nil.imp λY H Q ⟨E,ds,e,k⟩=>by
 cases e;exact k [] H (Same.refl _) rfl
def aa (f:Vv->Option D) (g:Vv->Option (List D)):Vv->Option (List D):=λU=>(f U).bind λd=>(g U).bind λr=>some (d::r)
theorem px_cons (h:PP X e f) (hr:PX X es g) (hs:starEach (e::es) X.env=(false,eval e X.env)::starEach es X.env:=by rfl):PX X (e::es) (aa f g):=
 λO U=>(bK (h O U) (hr O U) hs).imp λY H Q ⟨E,ds,q,k⟩=>by
 obtain⟨d,e1,q⟩:=bind_some q
 obtain⟨r,e2,q⟩:=bind_some q
 cases q
 exact⟨E,d,e1,λv H1 s1 i1=>⟨E.grow s1,r,e2,λvs H2 s2 i2=>k (v::vs) H2 (s1.trans s2) ⟨v,vs,rfl,Is.mono s2.msk d v i1,i2⟩⟩⟩
def b9 (o:Option (List D)):Option (List D):=o.bind λds=>if ds.length<big then some ds else none
theorem cX (h:b9 o=some ds):o=some ds/\ds.length<sizeLine:=by
 obtain⟨d,e1,e2⟩:=bind_some h;obtain⟨h1,h2⟩:=ay e2;subst h2;exact⟨e1,by rw[gz];exact h1⟩
theorem xy (h:PX X es g):PP X (.Tuple es x1 pos) (λU=>(b9 (g U)).bind λds=>some (.tup ds)):=λO U=>(sU (h O U)).imp λY H Q ⟨E,d,q,k⟩=>by
 obtain⟨ds,z,q2⟩:=bind_some q;cases q2;obtain⟨e1,e2⟩:=cX z;refine⟨E,ds,e1,λvs H1 s1 l=>⟨by rw[<-l.len];exact Nat.le_of_lt e2,λp hp=>?_⟩⟩;have hO:=(E.grow s1).fresh hp;have le:Same (msk O H1) (msk O (upd H1 p (.tup vs))):=by rw[lX hO];exact Same.new (by rw[aK hO];exact hp)
 exact k _ _ (s1.trans (Same.new hp)) ⟨p,vs,rfl,.of (by rw[aK hO,upd_same]),IsL.mono le _ _ l⟩
theorem Ea (h:PX X es g):PF X (.List es pos) (λU=>b9 (g U)):=λO U=>(wY (h O U)).imp λY H Q ⟨E,ds,q,k⟩=>by
 obtain⟨e1,e2⟩:=cX q;exact⟨E,ds,e1,λvs H1 s1 l=>⟨by rw[<-l.len];exact Nat.le_of_lt e2,λp hp=>k p vs H1 s1 hp l⟩⟩
def A5:D->Option Key
 |.int i=>some (.inl i)
 |.str x=>some (.inr x)
 |_=>none
theorem uM {K} (e:A5 d=some k) (h:Is K H d v):v=kV k:=by
 cases d with
 |int i=>cases e;exact h
 |str x=>cases e;exact h
 |_=>cases e
def sZ:List Key->List D->Key->Option D
 |k::ks,d::ds,j=>if k=j then some d else sZ ks ds j
 |_,_,_=>none
theorem valD_val {K}:∀ {kvs:List (Key×V)} {ds:List D},IsL K H ds (kvs.map (·.2))->(sZ (kvs.map (·.1)) ds j=none/\pO kvs j=none)\/∃d v,sZ (kvs.map (·.1)) ds j=some d/\pO kvs j=some v/\Is K H d v
 |[],ds,_=>.inl ⟨by cases ds<;>rfl,rfl⟩
 |p::r,[],h=>by cases(show(p::r).map (·.2)=[]from h)
 |p::r,d::ds,⟨x,t,z,h,l⟩=>by
  have z':p.2::r.map (·.2)=x::t:=z;cases z';show((if p.1=j then some d else sZ (r.map (·.1)) ds j)=none/\_)\/∃d' v,(if p.1=j then some d else sZ (r.map (·.1)) ds j)=some d'/\_;by_cases e:p.1=j
  ·rw[if_pos e,qV e];exact .inr ⟨d,p.2,rfl,rfl,h⟩
  ·rw[if_neg e,qW e];exact valD_val l
def Hy:R2:=λx y H Q=>∃p kvs k v,x=.ref p/\y=kV k/\Rd H p (.dK kvs)/\pO kvs k=some v/\Q v H
theorem A6:IxR X Hy:=by
 intro value slice pins s Y H x y v u Q I rx ry h hs;obtain⟨p,kvs,k,z,rfl,rfl,e,l,q⟩:=h;cases rx;obtain⟨_,hd,vs,rel,dd⟩:=oM I.hok e;obtain⟨w',hw,rw'⟩:=RelO.some_of (v:=z) (o:=valueAt vs k) (by rw[<-l];exact rel.val k);exact tail_any dd.typeIs PySem.F.slot_dict_getitem.lookup (wpAny_getItem_of (CW ry) dd.mapOf hw ⟨z,H,I.tok _,rw',q⟩) hs
def ixD:D->D->Option D
 |.lst ds,.int i=>atI ds i
 |.tup ds,.int i=>atI ds i
 |.dct ks ds,e=>(A5 e).bind (sZ ks ds)
 |_,_=>none
theorem uN {xs:List β} {d:α} (hl:ds.length=xs.length) (h:atI ds i=some d):∃j:Nat,ds[j]?=some d/\atI xs i=xs[j]?:=by
 obtain⟨j,e1,e2⟩:=bind_some h;refine⟨j,e2,?_⟩;show(ixN xs.length i).bind _=_;rw[<-hl,e1];rfl
theorem Ks {K}:R2D K (λx y H Q=>rIx K x y H Q\/Hy x y H Q) ixD:=λO H x y dx dy d Q hd ix iy e k=>by
 cases dx with
 |lst ds=>
  cases dy with
  |int i=>
   obtain⟨p,xs,rfl,q,l⟩:=ix;cases(show y=.int i from iy);obtain⟨j,e1,e2⟩:=uN l.len (show atI ds i=some d from e);obtain⟨v,e3,iv⟩:=l.get e1;exact .inl (.inl ⟨p,xs,i,v,rfl,rfl,msk_le.seq q,e2.trans e3,k v H (Same.refl _) iv⟩)
  |_=>cases e
 |tup ds=>
  cases dy with
  |int i=>
   obtain⟨p,xs,rfl,q,l⟩:=ix;cases(show y=.int i from iy);obtain⟨j,e1,e2⟩:=uN l.len (show atI ds i=some d from e);obtain⟨v,e3,iv⟩:=l.get e1;exact .inl (.inr (.inl ⟨p,xs,i,v,rfl,rfl,msk_le.seqT q,e2.trans e3,k v H (Same.refl _) iv⟩))
  |_=>cases e
 |dct ks ds=>
  obtain⟨p,kvs,rfl,q,rfl,l⟩:=ix;obtain⟨j,e1,e2⟩:=bind_some (show(A5 dy).bind _=some d from e);rcases valD_val (j:=j) l with⟨z,_⟩|⟨d',v,z,hv,iv⟩
  ·rw[z]at e2;cases e2
  ·rw[z]at e2;cases e2;exact .inr ⟨p,kvs,j,v,rfl,uM e1 iy,msk_le.rd q,hv,k v H (Same.refl _) iv⟩
 |_=>cases e
theorem pp_ix (ha:PP X a fa) (hb:PP X b fb) (hs:fI b:=by exactλ_ _=>rfl):PP X (.Subscript a b pos) (af ixD fa fb):=λO U=>(xf (ix_seq.or A6) (ha O U) (hb O U) hs).imp λY H Q h=>lY Ks h
def RnD (K:Frag) (r:List V->Hp->VK->Prop) (g:List D->Option D):Prop:=∀ (O:Addr->Bool) (H:Hp) (xs:List V) (ds:List D) (d:D) (Q:VK),(∀b,O b=true->H b≠none)->IsL K (msk O H) ds xs->g ds=some d->
 (∀v H',Same H H'->Is K (msk O H') d v->Q v H')->r xs H Q
variable {x:Str} {p:Pos} {bid T:String} {r:List V->Hp->VK->Prop} {g:List D->Option D} {fa:Vv->Option (List D)}
theorem pp_callB (hc:dU X (.builtin bid) r) (hr:RnD X.K r g) (hg:Gl X x) (hm:X.mg x=none) (hv:bootBuiltins x=some (.builtin bid)) (ha:PX X (e::es) fa) (hn:x≠"__name__":=by decide) (hdb:(x==("__debug__":Str))=false:=by decide)
  (he:starEach (e::es) X.env=(false,eval e X.env)::starEach es X.env:=by rfl) (hpl:(backTo pos (starEach es X.env)).any (·.1)=false:=by rfl):PP X (.Call (.Name x p) (e::es) [] pos) (λU=>(fa U).bind g):=
 λO U=>(gr hc hg hm hv (ha O U) hn hdb he hpl).imp λY H Q ⟨E,d,q,k⟩=>by
 obtain⟨ds,e1,q⟩:=bind_some q
 exact⟨E,ds,e1,λvs H1 s1 l=>hr O H1 vs ds d Q (E.grow s1).dom l q λv H2 s2 i2=>k v H2 (s1.trans s2) i2⟩
theorem pp_callTy (hc:dU X (.type T) r) (hr:RnD X.K r g) (hg:Gl X x) (hm:X.mg x=none) (hv:bootBuiltins x=some (.type T)) (ha:PX X (e::es) fa) (hn:x≠"__name__":=by decide) (hdb:(x==("__debug__":Str))=false:=by decide)
  (he:starEach (e::es) X.env=(false,eval e X.env)::starEach es X.env:=by rfl) (hpl:(backTo pos (starEach es X.env)).any (·.1)=false:=by rfl):PP X (.Call (.Name x p) (e::es) [] pos) (λU=>(fa U).bind g):=
 λO U=>(oH hc hg hm hv (ha O U) hn hdb he hpl).imp λY H Q ⟨E,d,q,k⟩=>by
 obtain⟨ds,e1,q⟩:=bind_some q
 exact⟨E,ds,e1,λvs H1 s1 l=>hr O H1 vs ds d Q (E.grow s1).dom l q λv H2 s2 i2=>k v H2 (s1.trans s2) i2⟩
def un1 {α:Type} (g:D->Option α) (ds:List D):Option α:=match ds with
 |[d]=>g d
 |_=>none
def un2 {α:Type} (g:D->D->Option α) (ds:List D):Option α:=match ds with
 |[c,d]=>g c d
 |_=>none
theorem cF {g} {r:α} (h:un1 g ds=some r):∃d,ds=[d]/\g d=some r:=by
 cases ds with
 |nil=>cases h
 |cons d t=>
  cases t with
  |nil=>exact⟨d,rfl,h⟩
  |cons _ _=>cases h
theorem xz {g} {r:α} (h:un2 g ds=some r):∃c d,ds=[c,d]/\g c d=some r:=by
 cases ds with
 |nil=>cases h
 |cons c t=>
  cases t with
  |nil=>cases h
  |cons d u=>
   cases u with
   |nil=>exact⟨c,d,rfl,h⟩
   |cons _ _=>cases h
theorem is1 {K} (l:IsL K H [d] xs):∃v,xs=[v]/\Is K H d v:=by
 obtain⟨v,r,z,h,z2⟩:=l;cases(show r=[]from z2);exact⟨v,z,h⟩
theorem is2 {K} {c d} (l:IsL K H [c,d] xs):∃u v,xs=[u,v]/\Is K H c u/\Is K H d v:=by
 obtain⟨u,r,z,h,l2⟩:=l;obtain⟨v,z2,h2⟩:=is1 l2;subst z2;exact⟨u,v,z,h,h2⟩
def cA:D->Option (List D)
 |.lst ds=>some ds
 |.tup ds=>some ds
 |_=>none
theorem jg {K} (e:cA d=some ds) (h:Is K H d v):∃p xs,v=.ref p/\(SqL K H p xs\/SqT K H p xs)/\IsL K H ds xs:=by
 cases d with
 |lst es=>cases e;obtain⟨p,xs,z,q,l⟩:=h;exact⟨p,xs,z,.inl q,l⟩
 |tup es=>cases e;obtain⟨p,xs,z,q,l⟩:=h;exact⟨p,xs,z,.inr q,l⟩
 |_=>cases e
theorem Same.both {K} {a} (s:Same H H') (h:SqL K H a xs\/SqT K H a xs):SqL K H' a xs\/SqT K H' a xs:=by
 rcases h with h|h
 ·exact .inl (s.seq h)
 ·exact .inr (s.seqT h)
def Hz:D->Option D
 |.dct ks _=>some (.int ks.length)
 |_=>none
def Eb (d:D):Option D:=match cA d with
 |some ds=>some (.int ds.length)
 |none=>Hz d
def aS:List D->Option D:=un1 Eb
theorem call_lenA:dU X (.builtin "len") (λxs H Q=>(∃p ys,xs=[.ref p]/\(SqL X.K H p ys\/SqT X.K H p ys)/\Q (.int ys.length) H)\/∃a kvs,xs=[V.ref a]/\Rd H a (.dK kvs)/\Q (.int kvs.length) H):=by
 intro pins s Y H xs us Q I r h;rcases h with h|⟨a,kvs,rfl,e,q⟩
 ·exact pK pins s Y H xs us Q I r h
 ·obtain⟨u,rfl,ru⟩:=gp r;cases ru;exact GZ I e λt s' I'=>⟨.int kvs.length,H,I',⟨t,rfl⟩,q⟩
theorem rn_len:RnD X.K (λxs H Q=>(∃p ys,xs=[.ref p]/\(SqL X.K H p ys\/SqT X.K H p ys)/\Q (.int ys.length) H)\/∃a kvs,xs=[V.ref a]/\Rd H a (.dK kvs)/\Q (.int kvs.length) H) aS:=λO H xs ds d Q hd l e k=>by
 obtain⟨c,rfl,e⟩:=cF e;obtain⟨v,rfl,h⟩:=is1 l;have e':Eb c=some d:=e;unfold Eb at e';cases e1:cA c with
 |some es=>
  rw[e1]at e';cases e';obtain⟨p,ys,rfl,q,l2⟩:=jg e1 h;exact .inl ⟨p,ys,rfl,msk_le.both q,k _ H (Same.refl _) (by show V.int ys.length=.int es.length;rw[l2.len])⟩
 |none=>
  rw[e1]at e';cases c with
  |dct ks ds=>
   cases e';obtain⟨a,kvs,rfl,q,rfl,_⟩:=h;exact .inr ⟨a,kvs,rfl,msk_le.rd q,k _ H (Same.refl _) (by show V.int kvs.length=.int _;rw[length_map])⟩
  |_=>cases e'
def jh:List D->Option (List D):=un1 cA
theorem A7 (hg:Gl X "list") (hm:X.mg "list"=none) (hv:bootBuiltins "list"=some (.type "list")) (ha:PX X [e] fa) (he:starEach [e] X.env=[(false,eval e X.env)]:=by rfl):PF X (.Call (.Name "list" p) [e] [] pos) (λU=>(fa U).bind jh):=
 λO U=>(oH pL hg hm hv (ha O U) (by decide) (by decide) he rfl).imp λY H Q ⟨E,ds,q,k⟩=>by
 obtain⟨as,e1,q⟩:=bind_some q
 refine⟨E,as,e1,λvs H1 s1 l=>?_⟩
 obtain⟨c,rfl,q2⟩:=cF q
 obtain⟨v,rfl,h⟩:=is1 l
 obtain⟨p,ys,rfl,t,l2⟩:=jg q2 h
 exact⟨p,ys,rfl,msk_le.both t,λb hb=>k b ys H1 s1 hb l2⟩
def jQ:List D->Option D:=un1 λd=>(cA d).bind λds=>some (.tup ds)
theorem rn_tuple:RnD X.K (λxs H Q=>∃p ys,xs=[.ref p]/\((SqL X.K H p ys/\∀l,H l=none->Q (.ref l) (upd H l (.tup ys)))\/(SqT X.K H p ys/\Q (.ref p) H))) jQ:=λO H xs ds d Q hd l e k=>by
 obtain⟨c,rfl,e⟩:=cF e;obtain⟨es,e1,e2⟩:=bind_some e;cases e2;obtain⟨v,rfl,h⟩:=is1 l;obtain⟨p,ys,rfl,q,l2⟩:=jg e1 h;refine⟨p,ys,rfl,?_⟩;rcases q with q|q
 ·refine .inl ⟨msk_le.seq q,λc hc=>?_⟩;have hO:=gy hd hc;have le:Same (msk O H) (msk O (upd H c (.tup ys))):=by rw[lX hO];exact Same.new (by rw[aK hO];exact hc)
  exact k _ _ (Same.new hc) ⟨c,ys,rfl,.of (by rw[aK hO,upd_same]),IsL.mono le _ _ l2⟩
 ·exact .inr ⟨msk_le.seqT q,k _ H (Same.refl _) ⟨p,ys,rfl,q,l2⟩⟩
theorem qY:∀ {bs:List Bool} {us:List Value},Vals (bs.map V.bl) us->us=bs.map Value.bool
 |[],_,.nil=>rfl
 |b::bs,_,.cons r t=>by
  cases(show _=Value.bool b from r);rw[qY t];rfl
theorem oP:∀ (bs:List Bool),((List.range bs.length).all λi=>bs.getD i true)=bs.all (λz=>z)
 |[]=>rfl
 |b::bs=>by
  rw[length_cons,List.range_succ_eq_map,List.all_cons,List.all_map,List.all_cons,<-oP bs];rfl
theorem call_all (hc:X.calm=true):dU X (.builtin "all") (λxs H Q=>∃ (p:Addr) (bs:List Bool),xs=[.ref p]/\SqL X.K H p (bs.map V.bl)/\Q (.bl (bs.all (λz=>z))) H):=by
 intro pins s Y H xs us Q I r h;obtain⟨l,bs,rfl,hl,q⟩:=h;obtain⟨u,rfl,ru⟩:=gp r;cases ru;obtain⟨its,rv,pl,hz⟩:=I.list hl;have eb:=qY rv;subst eb;have hL:=pl.isList;have hlt:l<s.heap.objs.size:=by obtain⟨_,e,_⟩:=hL;exact Heap.lt_size e
 refine call_all_walk (wpAny_pyIter_list hL ?_);refine⟨s.heap.objs.size,[s.heap.objs.size,l],[s.heap.objs.size],_,_,_,λi=>bs.getD i true,rfl,Walks.list (A:=X.A.in1) (I.ok.hd hc) _ l (Nat.ne_of_lt hlt) (bs.map Value.bool).toArray,
  ⟨⟨_,Heap.get?_push_size _ rfl,rfl,rfl⟩,hL.push _⟩,λi v s' Q' E' hP hQ=>?_,λh' tk hk=>?_⟩
 ·have hP':(bs.map Value.bool)[i]?=some v:=by simpa using hP
  rw[getElem?_map]at hP';cases e:bs[i]? with
  |none=>rw[e]at hP';cases hP'
  |some b=>
   rw[e]at hP';cases hP';have e':bs.getD i true=b:=by rw[List.getD_eq_getElem?_getD,e];rfl
   dsimp only at hQ;rw[e']at hQ;exact wpAny_truthy_bool hQ
 ·have e:((List.range (bs.map Value.bool).toArray.size).all λi=>bs.getD i true)=bs.all (λz=>z):=by
   rw[size_toArray,length_map];exact oP bs
  rw[e];exact⟨.bl _,H,I.kept (t':=tk) λb o ho=>hk b o (λhm=>by rw[mem_singleton.mp hm]at ho;exact Nat.lt_irrefl _ (Heap.lt_size ho)) (Heap.get?_push_of_some _ ho),rfl,q⟩
def xA:List D->Option (List Bool)
 |[]=>some []
 |d::ds=>d.asB.bind λb=>(xA ds).bind λr=>some (b::r)
def qZ:D->Option (List D)
 |.lst ds=>some ds
 |_=>none
theorem ic {K} (e:qZ d=some ds) (h:Is K H d v):∃p xs,v=.ref p/\SqL K H p xs/\IsL K H ds xs:=by
 cases d with
 |lst es=>cases e;exact h
 |_=>cases e
def n4:List D->Option D:=un1 λd=>(qZ d).bind λds=>(xA ds).bind λbs=>some (.bl (bs.all (λz=>z)))
theorem uO {K}:∀ {ds:List D} {bs:List Bool} {xs:List V},xA ds=some bs->IsL K H ds xs->xs=bs.map V.bl
 |[],_,_,e,l=>by cases e;exact l
 |d::ds,_,_,e,⟨x,r,z,h,l⟩=>by
  obtain⟨b,e1,e⟩:=bind_some e;obtain⟨bs,e2,e⟩:=bind_some e;cases e;cases asB_some e1;rw[z,uO e2 l,show x=.bl b from h];rfl
theorem rn_all:RnD X.K (λxs H Q=>∃ (p:Addr) (bs:List Bool),xs=[.ref p]/\SqL X.K H p (bs.map V.bl)/\Q (.bl (bs.all (λz=>z))) H) n4:=λO H xs ds d Q hd l e k=>by
 obtain⟨c,rfl,e⟩:=cF e;obtain⟨es,e1,e2⟩:=bind_some e;obtain⟨bs,e3,e4⟩:=bind_some e2;cases e4;obtain⟨v,rfl,h⟩:=is1 l;obtain⟨p,ys,rfl,q,l2⟩:=ic e1 h;rw[uO e3 l2]at q;exact⟨p,bs,rfl,msk_le.seq q,k _ H (Same.refl _) rfl⟩
def aZ:D->Bool
 |.non=>true
 |.bl _=>true
 |.int _=>true
 |.str _=>true
 |_=>false
def toV:D->V
 |.non=>.non
 |.bl b=>.bl b
 |.int i=>.int i
 |.str x=>.str x
 |_=>.non
theorem ii {K} (f:aZ d=true) (h:Is K H d v):v=toV d/\gu v=true:=by
 cases d<;>first|(cases(show v=_ from h);exact⟨rfl,rfl⟩)|cases f
theorem gA {K}:∀ {ds:List D} {xs:List V},ds.all aZ=true->IsL K H ds xs->xs=ds.map toV/\xs.all gu=true
 |[],_,_,l=>by cases(show _=[]from l);exact⟨rfl,rfl⟩
 |d::ds,_,f,⟨x,r,z,h,l⟩=>by
  rw[List.all_cons,and_eq_true]at f;obtain⟨e1,e2⟩:=ii f.1 h;obtain⟨e3,e4⟩:=gA f.2 l;rw[z];exact⟨by rw[e1,e3];rfl,by rw[List.all_cons,e2,e4];rfl⟩
def inL (x:D) (ds:List D):Bool:=inV (toV x) (ds.map toV)
def inD:D->D->Option D
 |x,.lst ds=>if aZ x&&ds.all aZ then some (.bl (inL x ds))else none
 |x,.tup ds=>if aZ x&&ds.all aZ then some (.bl (inL x ds))else none
 |_,_=>none
theorem r_in {K}:R2D K (rIn K false) inD:=λO H x y dx dy d Q hd ix iy e k=>by
 cases dy with
 |lst ds=>
  obtain⟨h1,h2⟩:=ay (show(if(aZ dx&&ds.all aZ)=true then _ else none)=some d from e);rw[and_eq_true]at h1;subst h2;obtain⟨p,xs,rfl,q,l⟩:=iy;obtain⟨e1,e2⟩:=ii h1.1 ix;obtain⟨e3,e4⟩:=gA h1.2 l;exact⟨p,xs,rfl,.inl (msk_le.seq q),e2,e4,k _ H (Same.refl _) (by rw[e1,e3];rfl)⟩
 |tup ds=>
  obtain⟨h1,h2⟩:=ay (show(if(aZ dx&&ds.all aZ)=true then _ else none)=some d from e);rw[and_eq_true]at h1;subst h2;obtain⟨p,xs,rfl,q,l⟩:=iy;obtain⟨e1,e2⟩:=ii h1.1 ix;obtain⟨e3,e4⟩:=gA h1.2 l;exact⟨p,xs,rfl,.inr (msk_le.seqT q),e2,e4,k _ H (Same.refl _) (by rw[e1,e3];rfl)⟩
 |_=>cases e
def cC:D->Option String
 |.non=>some "NoneType"
 |.bl _=>some "bool"
 |.int _=>some "int"
 |.str _=>some "str"
 |.tup _=>some "tuple"
 |.lst _=>some "list"
 |_=>none
def isI (T n:String):Bool:=T==n||(T=="bool"&&n=="int")
def uP (n:String):Bool:=["int","bool","str","list","tuple","dict"].contains n
theorem xB (K:Frag) (hT:cC d=some T) (hn:uP n=true):PySem.W.kitOne K (.type T) (.type n)=some (isI T n):=by
 have hn':n="int"\/n="bool"\/n="str"\/n="list"\/n="tuple"\/n="dict":=by
  simpa [uP] using hn
 cases d<;>first
  |(cases hT;rcases hn' with rfl|rfl|rfl|rfl|rfl|rfl<;>rfl)
  |cases hT
theorem A8 {Y:St} {x} {u c} {b} (I:Inv X pins Y H s) (h:Is X.K H d x) (rx:RelV x u) (hT:cC d=some T) (e:PySem.W.kitOne X.K (.type T) c=some b) (hq:∀tk,Q (.bool b) {s with toks:=tk}):wpAny (model X.prog X.w) A (call (.builtin "isinstance") [u,c]) Q E s:=by
 cases d with
 |non=>cases hT;cases(show x=_ from h);cases(show u=Value.none from rx);exact PySem.W.kia_one PySem.W.kitx_none I.kIn True.intro e (λz=>nomatch z) hq
 |bl y=>cases hT;cases(show x=_ from h);cases(show u=Value.bool y from rx);exact PySem.W.kia_one PySem.W.kitx_bool I.kIn True.intro e (λz=>nomatch z) hq
 |int i=>cases hT;cases(show x=_ from h);obtain⟨t,q⟩:=(show∃t,u=Value.int i t from rx);cases q;exact PySem.W.kia_one PySem.W.kitx_int I.kIn True.intro e (λz=>nomatch z) hq
 |str i=>cases hT;cases(show x=_ from h);obtain⟨t,q⟩:=(show∃t,u=Value.str i t from rx);cases q;exact PySem.W.kia_one PySem.W.kitx_str I.kIn True.intro e (λz=>nomatch z) hq
 |tup ds=>
  cases hT;obtain⟨a,xs,rfl,q,l⟩:=h;cases(show u=Value.ref a from rx);obtain⟨its,_,⟨o,h1,h2,_⟩,_⟩:=I.tuple q;exact PySem.W.kia_one PySem.W.kitx_tuple I.kIn ⟨o,h1,h2⟩ e (λz=>nomatch z) hq
 |lst ds=>
  cases hT;obtain⟨a,xs,rfl,q,l⟩:=h;cases(show u=Value.ref a from rx);obtain⟨its,_,⟨o,n,h1,h2,_⟩,_⟩:=I.list q;exact PySem.W.kia_one PySem.W.kitx_list I.kIn ⟨o,h1,h2⟩ e (λz=>nomatch z) hq
 |_=>cases hT
theorem A9 {Y:St} {x} {b} (I:Inv X pins Y H s) (h:Is X.K H d x) (rx:RelV x u) (hT:cC d=some T) (htp:s.heap.get? tp=some ⟨.type "tuple",dd,.seq its.toArray n,sl⟩) (e:PySem.W.kitAny X.K (.type T) its=some b) (hq:∀tk,Q (.bool b) {s with toks:=tk}):wpAny (model X.prog X.w) A (call (.builtin "isinstance") [u,.ref tp]) Q E s:=by
 cases d with
 |non=>cases hT;cases(show x=_ from h);cases(show u=Value.none from rx);exact PySem.W.kia_tup PySem.W.kitx_none I.kIn True.intro htp e (λz=>nomatch z) hq
 |bl y=>cases hT;cases(show x=_ from h);cases(show u=Value.bool y from rx);exact PySem.W.kia_tup PySem.W.kitx_bool I.kIn True.intro htp e (λz=>nomatch z) hq
 |int i=>cases hT;cases(show x=_ from h);obtain⟨t,q⟩:=(show∃t,u=Value.int i t from rx);cases q;exact PySem.W.kia_tup PySem.W.kitx_int I.kIn True.intro htp e (λz=>nomatch z) hq
 |str i=>cases hT;cases(show x=_ from h);obtain⟨t,q⟩:=(show∃t,u=Value.str i t from rx);cases q;exact PySem.W.kia_tup PySem.W.kitx_str I.kIn True.intro htp e (λz=>nomatch z) hq
 |tup ds=>
  cases hT;obtain⟨a,xs,rfl,q,l⟩:=h;cases(show u=Value.ref a from rx);obtain⟨its,_,⟨o,h1,h2,_⟩,_⟩:=I.tuple q;exact PySem.W.kia_tup PySem.W.kitx_tuple I.kIn ⟨o,h1,h2⟩ htp e (λz=>nomatch z) hq
 |lst ds=>
  cases hT;obtain⟨a,xs,rfl,q,l⟩:=h;cases(show u=Value.ref a from rx);obtain⟨its,_,⟨o,n,h1,h2,_⟩,_⟩:=I.list q;exact PySem.W.kia_tup PySem.W.kitx_list I.kIn ⟨o,h1,h2⟩ htp e (λz=>nomatch z) hq
 |_=>cases hT
def tyD:D->Option String
 |.ty n=>if uP n then some n else none
 |_=>none
theorem q0 (h:tyD d=some n):d=.ty n/\uP n=true:=by
 cases d with
 |ty m=>obtain⟨h1,h2⟩:=ay h;subst h2;exact⟨rfl,h1⟩
 |_=>cases h
def xC:List D->Option (List String)
 |[]=>some []
 |d::ds=>(tyD d).bind λn=>(xC ds).bind λr=>some (n::r)
def HA:D->Option (List D)
 |.tup ds=>some ds
 |_=>none
theorem Ba {K} (e:HA d=some ds) (h:Is K H d v):∃p xs,v=.ref p/\SqT K H p xs/\IsL K H ds xs:=by
 cases d with
 |tup es=>cases e;exact h
 |_=>cases e
def mM (c:D):Option (List String):=match tyD c with
 |some n=>some [n]
 |none=>(HA c).bind xC
def gB:List D->Option D:=un2 λd c=>(cC d).bind λT=>(mM c).bind λns=>some (.bl (ns.any (isI T)))
theorem oQ {K} (hT:cC d=some T):∀ {cs:List D} {ns:List String} {xs:List V} {us:List Value},xC cs=some ns->IsL K H cs xs->Vals xs us->PySem.W.kitAny K (.type T) us=some (ns.any (isI T))
 |[],_,_,_,e,l,r=>by
  cases e;cases(show _=[]from l);cases r;rfl
 |c::cs,ns,_,_,e,⟨x,xr,z,h,l⟩,r=>by
  obtain⟨n,e1,e2⟩:=bind_some e;obtain⟨ms,e3,e4⟩:=bind_some e2;cases e4;obtain⟨rfl,hk⟩:=q0 e1;subst z;cases r with
  |cons r1 r2=>
   cases(show x=.ty n from h);cases(show _=Value.type n from r1);show(match PySem.W.kitOne K (.type T) (.type n)with|some true=>some true|some false=>PySem.W.kitAny K (.type T) _|none=>none)=_;rw[xB K hT hk,oQ hT e3 l r2,List.any_cons];cases isI T n<;>rfl
theorem call_isi:dU X (.builtin "isinstance") (λxs H Q=>∃d c T ns,IsL X.K H [d,c] xs/\cC d=some T/\mM c=some ns/\Q (.bl (ns.any (isI T))) H):=by
 intro pins s Y H xs us Q I r h;obtain⟨d,c,T,ns,l,hT,e,q⟩:=h;obtain⟨x,y,rfl,hx,hy⟩:=is2 l;obtain⟨u,w',rfl,r1,r2⟩:=uI r;unfold mM at e;split at e
 ·rename_i n hn;cases e;obtain⟨rfl,hk⟩:=q0 hn;cases(show y=.ty n from hy);cases(show w'=Value.type n from r2);refine A8 I hx r1 hT (xB X.K hT hk) λtk=>⟨.bl _,H,I.tok tk,rfl,?_⟩;have e1:([n].any (isI T))=isI T n:=by simp
  rw[e1]at q;exact q
 ·obtain⟨cs,e1,e2⟩:=bind_some e;obtain⟨tp,ys,rfl,hq,hl⟩:=Ba e1 hy;cases(show w'=Value.ref tp from r2);obtain⟨its,rv,⟨o,h1,h2,n,h3⟩,_⟩:=I.tuple hq;obtain⟨oc,od,oda,osl⟩:=o;cases(show oc=_ from h2);cases(show oda=_ from h3);exact A9 I hx r1 hT h1 (oQ hT e2 hl rv) λtk=>⟨.bl _,H,I.tok tk,rfl,q⟩
theorem rn_isi:RnD X.K (λxs H Q=>∃d c T ns,IsL X.K H [d,c] xs/\cC d=some T/\mM c=some ns/\Q (.bl (ns.any (isI T))) H) gB:=λO H xs ds d Q hd l e k=>by
 obtain⟨d0,c,rfl,e⟩:=xz e;obtain⟨T,e1,e2⟩:=bind_some e;obtain⟨ns,e3,e4⟩:=bind_some e2;cases e4;exact⟨d0,c,T,ns,l.full,e1,e3,k _ H (Same.refl _) rfl⟩
end
theorem PE.ex {ι:Type} {t:ι->TE} (h:∀z,PE X e (t z)):PE X e (λY H Q=>∃z,t z Y H Q):=λpins s Y H Q I ⟨z,q⟩=>h z pins s Y H Q I q
theorem PTs.ex {ι:Type} {t:ι->TT} (h:∀z,PTs X e (t z)):PTs X e (λY H Q=>∃z,t z Y H Q):=λpins s Y H Q I ⟨z,q⟩=>h z pins s Y H Q I q
theorem PG.ex {ι:Type} {t:ι->TG} (h:∀z,PG X e (t z)):PG X e (λv Y H Q=>∃z,t z v Y H Q):=λpins s Y H v u Q I r ⟨z,q⟩=>h z pins s Y H v u Q I r q
theorem PSs.ex {ι:Type} {t:ι->TS} (h:∀z,PSs X e (t z)):PSs X e (λD Y H=>∃z,t z D Y H):=λpins s Y H D I ⟨z,q⟩=>h z pins s Y H D I q
def oR (K:Frag) (Hm:Hp) (J:It) (ds:List D):Prop:=∀ (i:Nat) (H:Hp) (O:Addr->Bool),Same Hm (msk O H)->(∀b,O b=true->H b≠none)->
 (∀d,ds[i]?=some d->J.go i H/\∀x H3,J.yld i H x H3->Same H H3/\Is K (msk O H3) d x)/\(ds.length<=i->J.stop i H)
def tJ (K:Frag) (O:Addr->Bool) (U:Vv) (o:Option (List D)):TI:=λY H R=>VE K O Y H U/\∃ds,o=some ds/\∀J H',Same H H'->oR K (msk O H') J ds->R J H'
def PJ (X:Cx) (tg iter:Expr) (f:Vv->Option (List D)):Prop:=∀O U,PI X tg iter (tJ X.K O U (f U))
section
variable {X:Cx} {tg l e:Expr} {pos:Pos}
def Kt (K:Frag) (tl:TE):TI:=λY H R=>tl Y H λx H1=>∃a,x=.ref a/\(((∃xs,SqL K H1 a xs)/\R (Itl K a) H1)\/((∃xs,SqT K H1 a xs)/\R (Itt K a) H1))
theorem Ec (hl:PE X l tl):PI X tg l (Kt X.K tl):=by
 intro pins s Y H R I h;refine thn (hl pins s Y H _ I h) λv s1 ⟨x,H1,I1,r1,q1⟩=>?_;obtain⟨a,e,q⟩:=q1;subst e;cases r1;have fin:∀b∈[s1.heap.objs.size],iR X pins H1 b:=λb hb=>by
  have e:b=s1.heap.objs.size:=by simpa using hb
  subst e;exact I1.fpOk (le_refl _) (I1.hok.fresh (le_refl _))
 rcases q with⟨⟨xs,hq⟩,q⟩|⟨⟨xs,hq⟩,q⟩
 ·obtain⟨its,rv,p,hz⟩:=I1.list hq;refine wpAny_pyIter_list p.isList ?_;exact⟨s1.heap.objs.size,[s1.heap.objs.size],_,_,H1,rfl,I1.kept (t':=s1.toks) λb o e=>Heap.get?_push_of_some _ e,vO a _,⟨_,Heap.get?_push_size _ rfl,rfl,rfl⟩,fin,q⟩
 ·obtain⟨its,rv,p,hz⟩:=I1.tuple hq;refine wpAny_pyIter_tuple (show s1.heap.IsTuple a its.toArray from p) ?_;exact⟨s1.heap.objs.size,[s1.heap.objs.size],_,_,H1,rfl,I1.kept (t':=s1.toks) λb o e=>Heap.get?_push_of_some _ e,sJ a _,⟨_,Heap.get?_push_size _ rfl,rfl,rfl⟩,fin,q⟩
theorem wa {K} (q:SqL K Hm a xs) (il:IsL K Hm ds xs):oR K Hm (Itl K a) ds:=λi H O s hd=>by
 have q':SqL K H a xs:=(s.trans msk_le).seq q;refine⟨λd hi=>?_,λhi=>⟨xs,q',by rw[<-il.len];exact hi⟩⟩;obtain⟨x,hx,ix⟩:=il.get hi;refine⟨⟨xs,x,q',hx⟩,λy H3 ⟨e,hy⟩=>?_⟩;subst e;have:=hy xs q';rw[hx]at this;cases this;exact⟨Same.refl _,Is.mono s d x ix⟩
theorem xD {K} (q:SqT K Hm a xs) (il:IsL K Hm ds xs):oR K Hm (Itt K a) ds:=λi H O s hd=>by
 have q':SqT K H a xs:=(s.trans msk_le).seqT q;refine⟨λd hi=>?_,λhi=>⟨xs,q',by rw[<-il.len];exact hi⟩⟩;obtain⟨x,hx,ix⟩:=il.get hi;refine⟨⟨xs,x,q',hx⟩,λy H3 ⟨e,hy⟩=>?_⟩;subst e;have:=hy xs q';rw[hx]at this;cases this;exact⟨Same.refl _,Is.mono s d x ix⟩
theorem Ed (h:PP X l f):PJ X tg l (λU=>(f U).bind cA):=λO U=>(Ec (h O U)).imp λY H R ⟨E,ds,q,k⟩=>by
 obtain⟨d,e1,q⟩:=bind_some q;refine⟨E,d,e1,λv H1 s1 i1=>?_⟩;obtain⟨a,xs,rfl,t,il⟩:=jg q i1;rcases t with t|t
 ·exact⟨a,rfl,.inl ⟨⟨xs,msk_le.seq t⟩,k _ H1 s1 (wa t il)⟩⟩
 ·exact⟨a,rfl,.inr ⟨⟨xs,msk_le.seqT t⟩,k _ H1 s1 (xD t il)⟩⟩
def lq (lo:Int) (n:Nat):List D:=(List.range n).map λ(i:Nat)=>D.int (lo+(i:Int))
theorem tj {K} {lo}:oR K Hm (Itr lo n) (lq lo n):=λi H O s hd=>by
 have hl:(lq lo n).length=n:=by simp[lq]
 refine⟨λd hi=>?_,λhi=>by rw[hl]at hi;exact hi⟩;have hin:i<n:=by
  have:=(List.getElem?_eq_some_iff.mp hi).1;rw[hl]at this;exact this
 refine⟨hin,λx H3 ⟨e,hx⟩=>?_⟩;subst e hx;have:d=.int (lo+(i:Int)):=by
  simp[lq,hin]at hi;exact hi.symm
 subst this;exact⟨Same.refl _,rfl⟩
def ra:D->Option Int
 |.int i=>some i
 |_=>none
theorem intD_some (h:ra d=some i):d=.int i:=by
 cases d<;>first|(cases h;rfl)|cases h
def inR (j:Int):Prop:=-(2^62)<=j/\j<2^62
instance (j:Int):Decidable (inR j):=Classical.propDecidable _
def rc:List D->Option (List D):=un1 λd=>(ra d).bind λj=>if inR j then some (lq 0 j.toNat)else none
theorem wb (hg:Gl X "range") (hm:X.mg "range"=none) (ha:PX X [e] fa) (hs:starEach [e] X.env=[(false,eval e X.env)]:=by rfl):PJ X tg (.Call (.Name "range" p) [e] [] pos) (λU=>(fa U).bind rc):=
 λO U=>(vP hg hm (ha O U) hs).imp λY H R ⟨E,ds,q,k⟩=>by
 obtain⟨as,e1,q⟩:=bind_some q
 refine⟨E,as,e1,λvs H1 s1 il=>?_⟩
 obtain⟨c,rfl,q1⟩:=cF q
 obtain⟨j,q2,q3⟩:=bind_some q1
 obtain⟨h1,h2⟩:=ay q3
 subst h2
 obtain⟨v,rfl,iv⟩:=is1 il
 cases intD_some q2
 have h1':-(2^62)<=j/\j<2^62:=h1
 exact⟨j,by rw[show v=.int j from iv],h1'.1,h1'.2,k _ H1 s1 tj⟩
def tG (K:Frag) (O:Addr->Bool) (U:Vv) (d:D) (ks:List Nat) (o:Option Vv):TG:=λv Y H Q=>VE K O Y H U/\Is K (msk O H) d v/\∃U',o=some U'/\
 ∀Y',VE K O Y' H U'->Y'.length=Y.length->(∀ (j:Nat) (w:V),j ∉ ks->Y[j]?=some (some w)->Y'[j]?=some (some w))->Q Y' H
def PGD (X:Cx) (ks:List Nat) (tg:Expr) (g:D->Vv->Option Vv):Prop:=∀O U d,PG X tg (tG X.K O U d ks (g d U))
def tGs (K:Frag) (O:Addr->Bool) (U:Vv) (ds:List D) (ks:List Nat) (o:Option Vv):TGs:=λvs Y H Q=>VE K O Y H U/\IsL K (msk O H) ds vs/\∃U',o=some U'/\
 ∀Y',VE K O Y' H U'->Y'.length=Y.length->(∀ (j:Nat) (w:V),j ∉ ks->Y[j]?=some (some w)->Y'[j]?=some (some w))->Q Y' H
def wc (X:Cx) (ks:List Nat) (ts:List Expr) (g:List D->Vv->Option Vv):Prop:=∀O U ds,PGs X ts (tGs X.K O U ds ks (g ds U))
def gNm (i:Nat):D->Vv->Option Vv:=λd U=>some (U.set i (some d))
theorem Bb (hN:X.N.Nodup) (hi:X.N[i]?=some x) (hx:Loc X.env.scope x) (hk:i∈ks) (hf:X.fn x=true\/X.env.scope.names.lookup x=some .local:=by first|exact .inl rfl|exact .inr rfl|assumption):PGD X ks (.Name x pos) (gNm i):=
 λO U d=>(uD hN hi hx hf).imp λv Y H Q ⟨E,iv,U',e,k⟩=>by
 cases e
 refine k _ (E.set iv) (by simp) λj w hj hw=>?_
 rw[List.getElem?_set_ne (λ(z:i=j)=>hj (by rw[<-z];exact hk))];exact hw
theorem PGs.imp (h:PGs X ts t) (k:∀v Y H Q,t' v Y H Q->t v Y H Q):PGs X ts t':=λpins s Y H vs us Q I r q=>h pins s Y H vs us Q I r (k _ _ _ _ q)
def eV:List D->Vv->Option Vv:=λds U=>match ds with|[]=>some U|_=>none
def bq (g:D->Vv->Option Vv) (gs:List D->Vv->Option Vv):List D->Vv->Option Vv:=λds U=>match ds with|d::r=>(g d U).bind λU1=>gs r U1|_=>none
theorem Bc:wc X ks [] eV:=λO U ds=>pgs_nil.imp λvs Y H Q ⟨E,il,U',e,k⟩=>by
 cases ds with
 |nil=>cases e;exact⟨il,k Y E rfl λ_ _ _ h=>h⟩
 |cons _ _=>cases e
theorem PGs.ex {e} {ι:Type} {t:ι->TGs} (h:∀z,PGs X e (t z)):PGs X e (λv Y H Q=>∃z,t z v Y H Q):=λpins s Y H v u Q I r ⟨z,q⟩=>h z pins s Y H v u Q I r q
theorem gsd_cons (h1:PGD X ks e g) (h2:wc X ks ts gs) (hs:(assignEach (e::ts) X.env).map (·.2)=assign e X.env::(assignEach ts X.env).map (·.2):=by rfl):wc X ks (e::ts) (bq g gs):=λO U ds=>by
 cases ds with
 |nil=>exactλpins s Y H vs us Q I r ⟨_,_,U',e,_⟩=>by cases e
 |cons d r=>
  refine(qN (h1 O U d) (PGs.ex λz:Vv=>h2 O z r) hs).imp λvs Y H Q ⟨E,⟨x,xr,z,ix,il⟩,U',e,k⟩=>?_;obtain⟨U1,e1,e2⟩:=bind_some (show(g d U).bind _=some U' from e);refine⟨x,xr,z,E,ix,U1,e1,λY1 E1 l1 k1=>⟨U1,E1,il,U',e2,λY2 E2 l2 k2=>?_⟩⟩;exact k Y2 E2 (l2.trans l1) λj w hj hw=>k2 j w hj (k1 j w hj hw)
def gTp (n:Nat) (gs:List D->Vv->Option Vv):D->Vv->Option Vv:=λd U=>match d with|.tup ds=>if ds.length=n then gs ds U else none|_=>none
theorem Ee {k n} (hc:X.calm=true) (h:wc X ks ts gs) (hn:(assignEach ts X.env).length=n:=by rfl) (hst:(assignEach ts X.env).findIdx? (·.1)=none:=by rfl):PGD X ks (.Tuple ts k pos) (gTp n gs):=λO U d=>by
 refine(wM hc (PGs.ex λz:List D=>h O U z) hn hst).imp λv Y H Q ⟨E,iv,U',e,k⟩=>?_;cases d with
 |tup ds=>
  obtain⟨a,xs,rfl,t,il⟩:=iv;have e':(if ds.length=n then gs ds U else none)=some U':=e;split at e'
  ·exact⟨a,xs,rfl,msk_le.seqT t,by rw[<-il.len];assumption,ds,E,il,U',e',k⟩
  ·cases e'
 |_=>cases e
end
def kP (step:D->Option (Option D)):List D->Option (List D)
 |[]=>some []
 |d::ds=>(step d).bind λo=>(kP step ds).bind λr=>some (match o with|some y=>y::r|none=>r)
def gb (g:D->Vv->Option Vv) (ft:Vv->Option Bool) (fe:Vv->Option D) (U:Vv) (d:D):Option (Option D):=(g d U).bind λU1=>(ft U1).bind λc=>if c=true then(fe U1).bind λy=>some (some y)else some none
def aw (ks:List Nat) (fi:Vv->Option (List D)) (g:D->Vv->Option Vv) (ft:Vv->Option Bool) (fe:Vv->Option D):Vv->Option (List D):=λU=>(fi U).bind λds=>b9 (kP (gb g ft fe (dI ks U)) ds)
def PQs (X:Cx) (ifs:List Expr) (f:Vv->Option Bool):Prop:=∀O U,PTs X ifs (tPT X.K O U (f U))
theorem PTs.imp (h:PTs X ifs t) (k:∀Y H Q,t' Y H Q->t Y H Q):PTs X ifs t':=λpins s Y H Q I q=>h pins s Y H Q I (k _ _ _ q)
theorem Bd:PQs X [] (λ_=>some true):=λO U=>pts_nil.imp λY H Q ⟨E,b,e,k⟩=>by cases e;exact k H (Same.refl _)
theorem Be (h:PQ X c f):PQs X [c] f:=λO U=>AW (h O U)
section
variable {X:Cx} {tg iter elt:Expr} {pos:Pos}
abbrev xG (K:Frag) (ks:List Nat) (g:D->Vv->Option Vv):TG:=λv Y H Q=>∃z:(Addr->Bool)×Vv×D,tG K z.1 z.2.1 z.2.2 ks (g z.2.2 z.2.1) v Y H Q
abbrev xT (K:Frag) (f:Vv->Option Bool):TT:=λY H Q=>∃z:(Addr->Bool)×Vv,tPT K z.1 z.2 (f z.2) Y H Q
abbrev xE (K:Frag) (f:Vv->Option D):TE:=λY H Q=>∃z:(Addr->Bool)×Vv,tP K z.1 z.2 (f z.2) Y H Q
theorem re {K} (h:tPF K O U (aw ks fi g ft fe U) Y H Q):
  qU (tJ K O U (fi U)) ks (xG K ks g) (xT K ft) (xE K fe) Y H Q:=by
 obtain⟨E,tot,e,k⟩:=h
 obtain⟨ds,e1,e⟩:=bind_some e
 obtain⟨e2,hz⟩:=cX e
 refine⟨E,ds,e1,λJ H1 s1 it=>⟨λi m ys H2=>i<=ds.length/\m=ds.length-i/\Same H1 H2/\∃rs rest,IsL K (msk O H2) rs ys/\kP (gb g ft fe (dI ks U)) (ds.drop i)=some rest/\tot=rs++rest,
  ⟨ds.length,Nat.zero_le _,by simp,Same.refl _,[],tot,rfl,by simpa using e2,rfl⟩,?_⟩⟩
 rintro i m ys H2 ⟨hi,rfl,s2,rs,rest,il,er,et⟩
 have E2:VE K O Y H2 U:=E.grow (s1.trans s2)
 have hit:=it i H2 O s2.msk E2.dom
 have hlen:ys.length<sizeLine:=by
  rw[<-il.len];have:rs.length<=tot.length:=by rw[et,length_append];omega
  omega
 by_cases hlt:i<ds.length
 ·refine .inr ?_;have hd:ds[i]?=some ds[i]:=getElem?_eq_getElem hlt;obtain⟨go,yl⟩:=hit.1 _ hd;refine⟨go,hlen,λx H3 hy=>?_⟩;obtain⟨s3,ix⟩:=yl x H3 hy;rw[List.drop_eq_getElem_cons hlt]at er;obtain⟨o,eo,er⟩:=bind_some (show(gb g ft fe (dI ks U) ds[i]).bind _=some rest from er);obtain⟨rest',er',er⟩:=bind_some er;obtain⟨U1,g1,eo⟩:=bind_some eo;obtain⟨c,c1,eo⟩:=bind_some eo;refine⟨⟨O,dI ks U,ds[i]⟩,(E2.grow s3).wiped ks,ix,U1,g1,λY4 E4 l4 k4=>⟨⟨l4,λj w hw=>?_⟩,⟨O,U1⟩,E4,c,c1,λH5 s5=>?_⟩⟩
  ·exact k4 j w (wipe_iff.mp hw).2 hw
  ·have hm:ds.length-(i+1)<ds.length-i:=by omega
   cases c with
   |true=>
    rw[if_pos rfl]at eo;refine AU ?_;obtain⟨y,y1,eo⟩:=bind_some eo;cases eo;refine⟨⟨O,U1⟩,E4.grow s5,y,y1,λv H6 s6 iv=>⟨_,hm,hlt,rfl,s2.trans (s3.trans (s5.trans s6)),rs++[y],rest',?_,er',?_⟩⟩
    ·exact(IsL.mono (s3.trans (s5.trans s6)).msk _ _ il).app ⟨v,[],rfl,iv,rfl⟩
    ·rw[et,<-Option.some.inj er,List.append_assoc];rfl
   |false=>
    rw[if_neg Bool.false_ne_true]at eo;refine AT ?_;cases eo;refine⟨_,hm,hlt,rfl,s2.trans (s3.trans s5),rs,rest',IsL.mono (s3.trans s5).msk _ _ il,er',?_⟩;rw[et,<-Option.some.inj er]
 ·have hie:i=ds.length:=by omega
  subst hie;refine .inl ⟨hit.2 (le_refl _),Nat.le_of_lt hlen,λp hp=>?_⟩;rw[List.drop_of_length_le (le_refl _)]at er;cases er;rw[List.append_nil]at et;subst et;exact k p ys H2 (s1.trans s2) hp il
end
mutual
def eqD:D->D->Bool
 |.non,.non=>true
 |.bl a,.bl b=>a==b
 |.bl a,.int b=>(if a then 1 else 0)==b
 |.int a,.bl b=>a==(if b then 1 else 0)
 |.int a,.int b=>a==b
 |.str a,.str b=>a==b
 |.tup a,.tup b=>eqL a b
 |.lst a,.lst b=>eqL a b
 |_,_=>false
def eqL:List D->List D->Bool
 |[],[]=>true
 |a::as,b::bs=>eqD a b&&eqL as bs
 |_,_=>false
end
mutual
def dep:D->Nat
 |.tup ds=>cG ds+1
 |.lst ds=>cG ds+1
 |_=>0
def cG:List D->Nat
 |[]=>0
 |d::ds=>max (dep d) (cG ds)
end
mutual
def okE:D->Bool
 |.non=>true
 |.bl _=>true
 |.int _=>true
 |.str _=>true
 |.ty _=>false
 |.adr _=>false
 |.tup ds=>okL ds
 |.lst ds=>okL ds
 |.obj _ _ _=>false
 |.dct _ _=>false
def okL:List D->Bool
 |[]=>true
 |d::ds=>okE d&&okL ds
end
mutual
theorem rg:∀d:D,okE d=true->eqD d d=true
 |.non,_=>rfl
 |.bl a,_=>by show(a==a)=true;simp
 |.int a,_=>by show(a==a)=true;simp
 |.str a,_=>by show(a==a)=true;simp
 |.ty _,h=>by cases h
 |.adr _,h=>by cases h
 |.tup ds,h=>gC ds h
 |.lst ds,h=>gC ds h
 |.obj _ _ _,h=>by cases h
 |.dct _ _,h=>by cases h
theorem gC:∀ds:List D,okL ds=true->eqL ds ds=true
 |[],_=>rfl
 |d::ds,h=>by
  have h':(okE d&&okL ds)=true:=h;rw[and_eq_true]at h';show(eqD d d&&eqL ds ds)=true;rw[rg d h'.1,gC ds h'.2];rfl
end
section
variable {X:Cx} {pins:List (Addr×Obj)} {Y:St} {H:Hp} {s:Shared}
theorem Inv.notBoth (I:Inv X pins Y H s) (h:SqT X.K H a xs) (h':SqL X.K H a ys):False:=by
 obtain⟨_,_,⟨o,e,c,_⟩,_⟩:=I.tuple h;obtain⟨_,_,⟨o',n,e',c',_⟩,_⟩:=I.list h';rw[e]at e';cases e';rw[c]at c';have:("tuple":String)="list":=by injection c'
 exact absurd this (by decide)
mutual
theorem Is.inj (I:Inv X pins Y H s):∀ (d e:D) (v:V),okE d=true->okE e=true->Is X.K H d v->Is X.K H e v->d=e
 |d,e,v,hd,he,h,h'=>by
  cases d with
  |non=>cases(show v=_ from h);cases e<;>first|exact(Bool.false_ne_true he).elim|rfl|(exact absurd (show V.non=_ from h') (by intro z;cases z))|(obtain⟨_,_,z,_⟩:=h';cases z)|cases he
  |bl b=>cases(show v=_ from h);cases e<;>first|exact(Bool.false_ne_true he).elim|(cases(show V.bl b=_ from h');rfl)|(exact absurd (show V.bl b=_ from h') (by intro z;cases z))|(obtain⟨_,_,z,_⟩:=h';cases z)|cases he
  |int b=>cases(show v=_ from h);cases e<;>first|exact(Bool.false_ne_true he).elim|(cases(show V.int b=_ from h');rfl)|(exact absurd (show V.int b=_ from h') (by intro z;cases z))|(obtain⟨_,_,z,_⟩:=h';cases z)|cases he
  |str b=>cases(show v=_ from h);cases e<;>first|exact(Bool.false_ne_true he).elim|(cases(show V.str b=_ from h');rfl)|(exact absurd (show V.str b=_ from h') (by intro z;cases z))|(obtain⟨_,_,z,_⟩:=h';cases z)|cases he
  |ty _=>cases hd
  |adr _=>cases hd
  |obj _ _ _=>cases hd
  |dct _ _=>cases hd
  |tup ds=>
   obtain⟨a,xs,rfl,q,l⟩:=h;cases e with
   |tup es=>
    obtain⟨a',ys,z,q',l'⟩:=h';cases z;cases I.tuple_inj q q';rw[IsL.inj I ds es xs hd he l l']
   |lst es=>
    obtain⟨a',ys,z,q',l'⟩:=h';cases z;exact(I.notBoth q q').elim
   |non=>exact absurd (show V.ref a=_ from h') (by intro z;cases z)
   |bl _=>exact absurd (show V.ref a=_ from h') (by intro z;cases z)
   |int _=>exact absurd (show V.ref a=_ from h') (by intro z;cases z)
   |str _=>exact absurd (show V.ref a=_ from h') (by intro z;cases z)
   |ty _=>cases he
   |adr _=>cases he
   |obj _ _ _=>cases he
   |dct _ _=>cases he
  |lst ds=>
   obtain⟨a,xs,rfl,q,l⟩:=h;cases e with
   |lst es=>
    obtain⟨a',ys,z,q',l'⟩:=h';cases z;cases I.list_inj q q';rw[IsL.inj I ds es xs hd he l l']
   |tup es=>
    obtain⟨a',ys,z,q',l'⟩:=h';cases z;exact(I.notBoth q' q).elim
   |non=>exact absurd (show V.ref a=_ from h') (by intro z;cases z)
   |bl _=>exact absurd (show V.ref a=_ from h') (by intro z;cases z)
   |int _=>exact absurd (show V.ref a=_ from h') (by intro z;cases z)
   |str _=>exact absurd (show V.ref a=_ from h') (by intro z;cases z)
   |ty _=>cases he
   |adr _=>cases he
   |obj _ _ _=>cases he
   |dct _ _=>cases he
theorem IsL.inj (I:Inv X pins Y H s):∀ (ds es:List D) (vs:List V),okL ds=true->okL es=true->IsL X.K H ds vs->IsL X.K H es vs->ds=es
 |[],[],_,_,_,_,_=>rfl
 |[],e::es,vs,_,_,h,⟨x,r,z,_⟩=>by cases(show vs=[]from h);cases z
 |d::ds,[],vs,_,_,⟨x,r,z,_⟩,h=>by cases(show vs=[]from h);cases z
 |d::ds,e::es,vs,hd,he,⟨x,r,z,h1,h2⟩,⟨x',r',z',h1',h2'⟩=>by
  cases z;cases z';have hd':(okE d&&okL ds)=true:=hd;have he':(okE e&&okL es)=true:=he;rw[and_eq_true]at hd' he';rw[Is.inj I d e x hd'.1 he'.1 h1 h1',IsL.inj I ds es r hd'.2 he'.2 h2 h2']
end
theorem bW:∀ (ds es:List D),(((List.range (min ds.length es.length)).all λj=>eqD (ds.getD j .non) (es.getD j .non))&&ds.length==es.length)=eqL ds es
 |[],[]=>rfl
 |[],e::es=>by simp[eqL]
 |d::ds,[]=>by simp[eqL]
 |d::ds,e::es=>by
  have ih:=bW ds es;show(((List.range (min (ds.length+1) (es.length+1))).all _)&&_)=(eqD d e&&eqL ds es);rw[<-ih,show min (ds.length+1) (es.length+1)=min ds.length es.length+1 by omega,List.range_succ_eq_map,List.all_cons,List.all_map];have e1:((d::ds).length==(e::es).length)=(ds.length==es.length):=by simp
  rw[e1,Bool.and_assoc];rfl
end
section
variable {X:Cx} {pins:List (Addr×Obj)} {Y:St} {H:Hp} {s:Shared}
theorem jR (A:Around):A.in1.units=A.units+1:=rfl
theorem l7:∀ {ds:List D} {i:Nat} {d:D},ds[i]?=some d->dep d<=cG ds
 |[],_,_,h=>by simp at h
 |c::ds,0,d,h=>by
  simp at h;subst h;show dep c<=max (dep c) (cG ds);omega
 |c::ds,i+1,d,h=>by
  have:=l7 (ds:=ds) (i:=i) (by simpa using h);show dep d<=max (dep c) (cG ds);omega
theorem iU:∀ {ds:List D} {i:Nat} {d:D},okL ds=true->ds[i]?=some d->okE d=true
 |[],_,_,_,h=>by simp at h
 |c::ds,0,d,ho,h=>by
  simp at h;subst h;have ho':(okE c&&okL ds)=true:=ho;rw[and_eq_true]at ho';exact ho'.1
 |c::ds,i+1,d,ho,h=>by
  have ho':(okE c&&okL ds)=true:=ho;rw[and_eq_true]at ho';exact iU (ds:=ds) (i:=i) ho'.2 (by simpa using h)
theorem getD_some {ds:List D} (h:ds[i]?=some d):ds.getD i .non=d:=by rw[List.getD_eq_getElem?_getD,h];rfl
theorem eW (go:∀ (i:Nat) (d e:D) (x y:V) (u w:Value),ds[i]?=some d->es[i]?=some e->Is X.K H d x->Is X.K H e y->RelV x u->RelV y w->SeqAt.EqAt A s u w (eqD d e)) (il:IsL X.K H ds xs) (jl:IsL X.K H es ys) (r:Vals xs us) (q:Vals ys ws) (j:Nat) (h1:j<us.toArray.size) (h2:j<ws.toArray.size):SeqAt.EqAt A s us.toArray[j] ws.toArray[j] (eqD (ds.getD j .non) (es.getD j .non)):=by
 have hx:us[j]?=some us.toArray[j]:=by simp at h1⊢
 have hy:ws[j]?=some ws.toArray[j]:=by simp at h2⊢
 obtain⟨x,e1,r1⟩:=paired_get' r hx;obtain⟨y,e2,r2⟩:=paired_get' q hy;obtain⟨d,e3,i3⟩:=il.get' e1;obtain⟨e,e4,i4⟩:=jl.get' e2;rw[getD_some e3,getD_some e4];exact go j d e x y _ _ e3 e4 i3 i4 r1 r2
theorem jS (h:Is X.K H d x) (f:aZ d=true):gu x=true/\x=toV d:=let⟨a,b⟩:=ii f h;⟨b,a⟩
theorem Bf (f:aZ d=true) (g:aZ e=true):eqV (toV d) (toV e)=eqD d e:=by
 cases d<;>cases e<;>first|exact(Bool.false_ne_true f).elim|exact(Bool.false_ne_true g).elim|rfl
theorem jT (ds es:List D) (h:ds.length=es.length):((List.range ds.length).all λj=>eqD (ds.getD j .non) (es.getD j .non))=eqL ds es:=by
 have:=bW ds es;rw[<-this,h];simp
theorem pQ (h:ds.length≠es.length):eqL ds es=false:=by
 rw[<-bW ds es];have:(ds.length==es.length)=false:=by simpa using h
 rw[this,Bool.and_false]
theorem xF (I:Inv X pins Y H s):∀ (n:Nat) (A:Around) (d e:D) (x y:V) (u w:Value),dep d<=n->A.units+n<cLine->okE d=true->okE e=true->Is X.K H d x->Is X.K H e y->RelV x u->RelV y w->SeqAt.EqAt A s u w (eqD d e):=by
 intro n;induction n with
 |zero=>
  intro A d e x y u w hn hu od oe hx hy rx ry;have fd:aZ d=true:=by
   cases d with
   |tup ds=>exact absurd (show cG ds+1<=0 from hn) (by omega)
   |lst ds=>exact absurd (show cG ds+1<=0 from hn) (by omega)
   |ty _=>cases od
   |adr _=>cases od
   |obj _ _ _=>cases od
   |dct _ _=>cases od
   |_=>rfl
  have hu':A.units<cLine:=by omega
  cases fe:aZ e with
  |true=>
   obtain⟨f1,e1⟩:=jS hx fd;obtain⟨f2,e2⟩:=jS hy fe;rw[<-Bf fd fe,<-e1,<-e2];exact xh rx ry f1 f2
  |false=>
   cases e with
   |tup es=>
    obtain⟨b,ys,rfl,q,l⟩:=hy;cases ry;obtain⟨its,rv,p,_⟩:=I.tuple q;cases d with
    |non=>cases(show x=_ from hx);cases rx;exact SeqAt.EqAt.none_tuple p hu'
    |bl c=>cases(show x=_ from hx);cases rx;exact SeqAt.EqAt.bool_tuple c p hu'
    |int c=>cases(show x=_ from hx);obtain⟨t,rfl⟩:=rx;exact SeqAt.EqAt.int_tuple c t p hu'
    |str c=>cases(show x=_ from hx);obtain⟨t,rfl⟩:=rx;exact SeqAt.EqAt.str_tuple c t p hu'
    |_=>cases fd
   |lst es=>
    obtain⟨b,ys,rfl,q,l⟩:=hy;cases ry;obtain⟨its,rv,p,_⟩:=I.list q;cases d with
    |non=>cases(show x=_ from hx);cases rx;exact SeqAt.EqAt.none_list p.isList hu'
    |bl c=>cases(show x=_ from hx);cases rx;exact SeqAt.EqAt.bool_list c p.isList hu'
    |int c=>cases(show x=_ from hx);obtain⟨t,rfl⟩:=rx;exact SeqAt.EqAt.int_list c t p.isList hu'
    |str c=>cases(show x=_ from hx);obtain⟨t,rfl⟩:=rx;exact SeqAt.EqAt.str_list c t p.isList hu'
    |_=>cases fd
   |ty _=>cases oe
   |adr _=>cases oe
   |obj _ _ _=>cases oe
   |dct _ _=>cases oe
   |_=>cases fe
 |succ n ih=>
  intro A d e x y u w hn hu od oe hx hy rx ry;have hu':A.units<cLine:=by omega
  cases fd:aZ d with
  |true=>
   have h0:dep d<=n:=by
    cases d<;>first|exact Nat.zero_le _|cases fd
   exact ih A d e x y u w h0 (by omega) od oe hx hy rx ry
  |false=>
   cases d with
   |tup ds=>
    have hdn:cG ds<=n:=Nat.le_of_succ_le_succ (show cG ds+1<=n+1 from hn);obtain⟨a,xs,rfl,q,l⟩:=hx;cases rx;obtain⟨its,rv,p,_⟩:=I.tuple q;cases e with
    |tup es=>
     obtain⟨b,ys,rfl,q',l'⟩:=hy;cases ry;obtain⟨its',rv',p',_⟩:=I.tuple q';by_cases hab:a=b
     ·subst hab;cases I.tuple_inj q q';cases IsL.inj I ds es xs od oe l l';rw[show eqD (.tup ds) (.tup ds)=true from gC ds od];exact SeqAt.EqAt.same _
     ·refine SeqAt.EqAt.of_refs hab ?_;have h:=SeqAt.RcAt.tuples (e:=λj=>eqD (ds.getD j .non) (es.getD j .non)) p p' hu' λj h1 h2=>eW (λi d e x y u w e1 e2 i1 i2 r1 r2=>ih A.in1 d e x y u w (Nat.le_trans (l7 e1) hdn) (by rw[jR];omega) (iU od e1) (iU oe e2) i1 i2 r1 r2) l l' rv rv' j h1 h2;have e1:its.toArray.size=ds.length:=by rw[size_toArray,<-rv.length,l.len]
      have e2:its'.toArray.size=es.length:=by rw[size_toArray,<-rv'.length,l'.len]
      rw[e1,e2,bW]at h;exact h
    |lst es=>
     obtain⟨b,ys,rfl,q',l'⟩:=hy;cases ry;obtain⟨its',rv',p',_⟩:=I.list q';exact SeqAt.EqAt.tuple_list p p'.isList hu'
    |non=>cases(show y=_ from hy);cases ry;exact SeqAt.EqAt.tuple_none p hu'
    |bl c=>cases(show y=_ from hy);cases ry;exact SeqAt.EqAt.tuple_bool c p hu'
    |int c=>cases(show y=_ from hy);obtain⟨t,rfl⟩:=ry;exact SeqAt.EqAt.tuple_int c t p hu'
    |str c=>cases(show y=_ from hy);obtain⟨t,rfl⟩:=ry;exact SeqAt.EqAt.tuple_str c t p hu'
    |ty _=>cases oe
    |adr _=>cases oe
    |obj _ _ _=>cases oe
    |dct _ _=>cases oe
   |lst ds=>
    have hdn:cG ds<=n:=Nat.le_of_succ_le_succ (show cG ds+1<=n+1 from hn);obtain⟨a,xs,rfl,q,l⟩:=hx;cases rx;obtain⟨its,rv,p,_⟩:=I.list q;cases e with
    |lst es=>
     obtain⟨b,ys,rfl,q',l'⟩:=hy;cases ry;obtain⟨its',rv',p',_⟩:=I.list q';have e1:its.toArray.size=ds.length:=by rw[size_toArray,<-rv.length,l.len]
     have e2:its'.toArray.size=es.length:=by rw[size_toArray,<-rv'.length,l'.len]
     by_cases hab:a=b
     ·subst hab;cases I.list_inj q q';cases IsL.inj I ds es xs od oe l l';rw[show eqD (.lst ds) (.lst ds)=true from gC ds od];exact SeqAt.EqAt.same _
     ·refine SeqAt.EqAt.of_refs hab ?_;by_cases hl:ds.length=es.length
      ·have h:=SeqAt.RcAt.lists (e:=λj=>eqD (ds.getD j .non) (es.getD j .non)) p.isList p'.isList (by rw[e1,e2,hl]) hu' λj h1 h2=>eW (λi d e x y u w e1 e2 i1 i2 r1 r2=>ih A.in1 d e x y u w (Nat.le_trans (l7 e1) hdn) (by rw[jR];omega) (iU od e1) (iU oe e2) i1 i2 r1 r2) l l' rv rv' j h1 h2;rw[e1,jT ds es hl]at h;exact h
      ·rw[show eqD (.lst ds) (.lst es)=false from pQ hl];exact SeqAt.RcAt.lists_lengths p.isList p'.isList (by rw[e1,e2];simpa using hl) hu'
    |tup es=>
     obtain⟨b,ys,rfl,q',l'⟩:=hy;cases ry;obtain⟨its',rv',p',_⟩:=I.tuple q';exact SeqAt.EqAt.list_tuple p.isList p' hu'
    |non=>cases(show y=_ from hy);cases ry;exact SeqAt.EqAt.list_none p.isList hu'
    |bl c=>cases(show y=_ from hy);cases ry;exact SeqAt.EqAt.list_bool c p.isList hu'
    |int c=>cases(show y=_ from hy);obtain⟨t,rfl⟩:=ry;exact SeqAt.EqAt.list_int c t p.isList hu'
    |str c=>cases(show y=_ from hy);obtain⟨t,rfl⟩:=ry;exact SeqAt.EqAt.list_str c t p.isList hu'
    |ty _=>cases oe
    |adr _=>cases oe
    |obj _ _ _=>cases oe
    |dct _ _=>cases oe
   |ty _=>cases od
   |adr _=>cases od
   |obj _ _ _=>cases od
   |dct _ _=>cases od
   |_=>cases fd
def Ef:D->D->Bool
 |.tup _,.tup _=>true
 |.lst _,.lst _=>true
 |_,_=>false
def kQ (d e:D):Option Bool:=if(aZ d&&aZ e&&qO (toV d) (toV e))=true then some (decide (toV d=toV e))else if(Ef d e&&okE d&&okE e&&decide (dep d<=50))=true then some (eqD d e)else none
def Eg (K:Frag) (neg:Bool):R2:=λx y H Q=>∃d e b,Is K H d x/\Is K H e y/\kQ d e=some b/\Q (.bl (if neg then !b else b)) H
theorem cmpEq_cases (h:kQ d e=some b):(aZ d=true/\aZ e=true/\qO (toV d) (toV e)=true/\b=decide (toV d=toV e))\/(Ef d e=true/\okE d=true/\okE e=true/\dep d<=50/\b=eqD d e):=by
 unfold kQ at h;split at h
 ·rename_i c;rw[and_eq_true,and_eq_true]at c;exact .inl ⟨c.1.1,c.1.2,c.2,(Option.some.inj h).symm⟩
 ·split at h
  ·rename_i _ c;rw[and_eq_true,and_eq_true,and_eq_true]at c;exact .inr ⟨c.1.1.1,c.1.1.2,c.1.2,of_decide_eq_true c.2,(Option.some.inj h).symm⟩
  ·cases h
theorem ij (I:Inv X pins Y H s) (hu:X.A.units+60<cLine) (od:okL ds=true) (oe:okL es=true) (hd:cG ds<=50):∀ (i:Nat) (d e:D) (x y:V) (u w:Value),ds[i]?=some d->es[i]?=some e->Is X.K H d x->Is X.K H e y->RelV x u->RelV y w->SeqAt.EqAt X.A.in1 s u w (eqD d e):=
 λi d e x y u w e1 e2 i1 i2 r1 r2=>xF I 50 X.A.in1 d e x y u w (Nat.le_trans (l7 e1) hd) (by rw[jR];omega) (iU od e1) (iU oe e2) i1 i2 r1 r2
theorem xH (hu:X.A.units+60<cLine):OpR X (compareOp .Eq) (Eg X.K false):=by
 intro pins s Y H x y v u Q I rx ry h;obtain⟨d,e,b,hx,hy,hb,q⟩:=h;have hu':X.A.units<cLine:=by omega
 rcases cmpEq_cases hb with⟨f1,f2,sc,rfl⟩|⟨sq,od,oe,hd,rfl⟩
 ·obtain⟨_,e1⟩:=jS hx f1;obtain⟨_,e2⟩:=jS hy f2;exact GI pins s Y H x y v u Q I rx ry ⟨by rw[e1,e2];exact sc,by rw[e1,e2];exact q⟩
 ·cases d with
  |tup ds=>
   cases e with
   |tup es=>
    obtain⟨a,xs,rfl,q1,l⟩:=hx;obtain⟨c,ys,rfl,q2,l'⟩:=hy;cases rx;cases ry;obtain⟨its,rv,p,_⟩:=I.tuple q1;obtain⟨its',rv',p',_⟩:=I.tuple q2;have hd':cG ds<=50:=by have:cG ds+1<=50:=hd;omega
    have e1:its.toArray.size=ds.length:=by rw[size_toArray,<-rv.length,l.len]
    have e2:its'.toArray.size=es.length:=by rw[size_toArray,<-rv'.length,l'.len]
    have hh:=SeqAt.RcAt.tuples (e:=λj=>eqD (ds.getD j .non) (es.getD j .non)) p p' hu' λj h1 h2=>eW (ij I hu od oe hd') l l' rv rv' j h1 h2;rw[e1,e2,bW]at hh;exact hh X.prog X.w X.xe _ ⟨.bl _,H,I,rfl,q⟩
   |_=>cases sq
  |lst ds=>
   cases e with
   |lst es=>
    obtain⟨a,xs,rfl,q1,l⟩:=hx;obtain⟨c,ys,rfl,q2,l'⟩:=hy;cases rx;cases ry;obtain⟨its,rv,p,_⟩:=I.list q1;obtain⟨its',rv',p',_⟩:=I.list q2;have hd':cG ds<=50:=by have:cG ds+1<=50:=hd;omega
    have e1:its.toArray.size=ds.length:=by rw[size_toArray,<-rv.length,l.len]
    have e2:its'.toArray.size=es.length:=by rw[size_toArray,<-rv'.length,l'.len]
    by_cases hl:ds.length=es.length
    ·have hh:=SeqAt.RcAt.lists (e:=λj=>eqD (ds.getD j .non) (es.getD j .non)) p.isList p'.isList (by rw[e1,e2,hl]) hu' λj h1 h2=>eW (ij I hu od oe hd') l l' rv rv' j h1 h2;rw[e1,jT ds es hl]at hh;exact hh X.prog X.w X.xe _ ⟨.bl _,H,I,rfl,q⟩
    ·have hh:SeqAt.RcAt X.A s (.ref a) (.ref c) false:=SeqAt.RcAt.lists_lengths p.isList p'.isList (by rw[e1,e2];simpa using hl) hu';rw[show eqD (.lst ds) (.lst es)=false from pQ hl]at q;exact hh X.prog X.w X.xe _ ⟨.bl _,H,I,rfl,q⟩
   |_=>cases sq
  |_=>cases sq
theorem xI (hu:X.A.units+60<cLine):OpR X (compareOp .NotEq) (Eg X.K true):=by
 intro pins s Y H x y v u Q I rx ry h;obtain⟨d,e,b,hx,hy,hb,q⟩:=h;have hu':X.A.units<cLine:=by omega
 rcases cmpEq_cases hb with⟨f1,f2,sc,rfl⟩|⟨sq,od,oe,hd,rfl⟩
 ·obtain⟨_,e1⟩:=jS hx f1;obtain⟨_,e2⟩:=jS hy f2;exact GJ pins s Y H x y v u Q I rx ry ⟨by rw[e1,e2];exact sc,by rw[e1,e2];exact q⟩
 ·cases d with
  |tup ds=>
   cases e with
   |tup es=>
    obtain⟨a,xs,rfl,q1,l⟩:=hx;obtain⟨c,ys,rfl,q2,l'⟩:=hy;cases rx;cases ry;obtain⟨its,rv,p,_⟩:=I.tuple q1;obtain⟨its',rv',p',_⟩:=I.tuple q2;have hd':cG ds<=50:=by have:cG ds+1<=50:=hd;omega
    have e1:its.toArray.size=ds.length:=by rw[size_toArray,<-rv.length,l.len]
    have e2:its'.toArray.size=es.length:=by rw[size_toArray,<-rv'.length,l'.len]
    have hh:=SeqAt.RcNeAt.tuples (e:=λj=>eqD (ds.getD j .non) (es.getD j .non)) p p' hu' λj h1 h2=>eW (ij I hu od oe hd') l l' rv rv' j h1 h2;rw[e1,e2,bW]at hh;exact hh X.prog X.w X.xe _ ⟨.bl _,H,I,rfl,q⟩
   |_=>cases sq
  |lst ds=>
   cases e with
   |lst es=>
    obtain⟨a,xs,rfl,q1,l⟩:=hx;obtain⟨c,ys,rfl,q2,l'⟩:=hy;cases rx;cases ry;obtain⟨its,rv,p,_⟩:=I.list q1;obtain⟨its',rv',p',_⟩:=I.list q2;have hd':cG ds<=50:=by have:cG ds+1<=50:=hd;omega
    have e1:its.toArray.size=ds.length:=by rw[size_toArray,<-rv.length,l.len]
    have e2:its'.toArray.size=es.length:=by rw[size_toArray,<-rv'.length,l'.len]
    by_cases hl:ds.length=es.length
    ·have hh:=SeqAt.RcNeAt.lists (e:=λj=>eqD (ds.getD j .non) (es.getD j .non)) p.isList p'.isList (by rw[e1,e2,hl]) hu' λj h1 h2=>eW (ij I hu od oe hd') l l' rv rv' j h1 h2;rw[e1,jT ds es hl]at hh;exact hh X.prog X.w X.xe _ ⟨.bl _,H,I,rfl,q⟩
    ·have hh:SeqAt.RcNeAt X.A s (.ref a) (.ref c) true:=SeqAt.RcNeAt.lists_lengths p.isList p'.isList (by rw[e1,e2];simpa using hl) hu';rw[show eqD (.lst ds) (.lst es)=false from pQ hl]at q;exact hh X.prog X.w X.xe _ ⟨.bl _,H,I,rfl,q⟩
   |_=>cases sq
  |_=>cases sq
end
def bi (neg:Bool) (d e:D):Option D:=(kQ d e).bind λb=>some (.bl (if neg then !b else b))
theorem uQ {K}:R2D K (Eg K neg) (bi neg):=λO H x y dx dy d Q hd ix iy e k=>by
 obtain⟨b,e1,e2⟩:=bind_some e;cases e2;exact⟨dx,dy,b,ix.full,iy.full,e1,k _ H (Same.refl _) rfl⟩
section
variable {X:Cx} {pos:Pos} {a b e:Expr}
theorem jU (r:Room k A):A.units+60<cLine:=by have:=r.un;omega
theorem HC (r:Room k X.A) (ha:PP X a fa) (hb:PP X b fb):PP X (.Compare a [.Eq] [b] pos) (af (bi false) fa fb):=pp_cmp (xH (jU r)) uQ ha hb (dq _)
theorem HE (r:Room k X.A) (ha:PP X a fa) (hb:PP X b fb):PP X (.Compare a [.NotEq] [b] pos) (af (bi true) fa fb):=pp_cmp (xI (jU r)) uQ ha hb (dq _)
theorem HF (r:Room k X.A) (ha:PP X a fa) (hb:PP X b fb):PQ X (.Compare a [.Eq] [b] pos) (au (af (bi false) fa fb)):=pq_cmp (xH (jU r)) uQ ha hb (dq _)
theorem HG (r:Room k X.A) (ha:PP X a fa) (hb:PP X b fb):PQ X (.Compare a [.NotEq] [b] pos) (au (af (bi true) fa fb)):=pq_cmp (xI (jU r)) uQ ha hb (dq _)
structure Cn (K:Frag) (mg:Str->Option Value) (x:Str) (d:D):Prop where
 ex:∃v u,mg x=some u/\RelV v u/\∀H,Is K H d v
theorem xJ (c:Cn X.K X.mg x d) (hg:Gl X x) (hd:(x==("__debug__":Str))=false:=by decide):PP X (.Name x pos) (λ_=>some d):=by
 obtain⟨v,u,h1,h2,h3⟩:=c.ex;exact AZ hg h1 h2 h3 hd
end
def ItK:Bool->Heap->Addr->Addr->Nat->Prop
 |true,h,it,l,k=>h.IsListIter it l k
 |false,h,it,l,k=>h.IsTupleIter it l k
def CoK:Bool->Heap->Addr->Array Value->Prop
 |true,h,l,its=>h.IsList l its
 |false,h,l,its=>h.IsTuple l its
theorem ItK.at (x:ItK b h it l k) (e:∀o,h.get? it=some o->h'.get? it=some o):ItK b h' it l k:=by
 cases b
 ·exact Heap.IsTupleIter.at x e
 ·exact Heap.IsListIter.at x e
theorem ItK.live (x:ItK b h it l k):∃o n vs,h.get? it=some o/\o.cls=.type n/\o.data=.fields vs/\(n="list_iterator"\/n="tuple_iterator"):=by
 cases b
 ·obtain⟨o,e,c,d⟩:=x;exact⟨o,_,_,e,c,d,.inr rfl⟩
 ·obtain⟨o,e,c,d⟩:=x;exact⟨o,_,_,e,c,d,.inl rfl⟩
section
variable {prog:Program} {w:World} {A:Around} {E:Value->Shared->Prop} {s:Shared}
theorem xK (hit:s.heap.IsTupleIter it t i) (ht:s.heap.IsTuple t its) (hx:its[i]?=some x) (hQ:∀h',h'.IsTupleIter it t (i+1)->Heap.SameBut it s.heap h'->Q x {s with heap:=h'}):wpAny (model prog w) A (Builtin.SmallTypes.nextOf (.ref it)) Q E s:=by
 obtain⟨o,ho,hc,hd⟩:=id hit;obtain⟨ol,hol,_,nl,hdl⟩:=ht;have go:wpAny (model prog w) A.in1 (Builtin.«tuple_iterator.__next__» ⟨[.ref it],[]⟩) (λfin s'=>∃v,fin=.done (.ret v)/\wpAny (model prog w) A (pure v) Q E s') E s:=by
  show wpAny _ _ (field (.ref it) 0>>=_) _ _ s;refine wpAny_bind (wpAny_field ho hd (x:=.ref t) rfl ?_);show wpAny _ _ (if(Value.ref t==Value.none)=true then _ else _) _ _ s;rw[if_neg (show¬ ((Value.ref t==Value.none)=true)from Bool.false_ne_true)];show wpAny _ _ (field (.ref it) 1>>=_) _ _ s;refine wpAny_bind (wpAny_field ho hd (x:=.int i 0) rfl ?_);show wpAny _ _ (seqItems? (.ref t)>>=_) _ _ s;refine wpAny_bind (wpAny_seqItems hol hdl ?_);simp only[Int.toNat_natCast,hx];refine wpAny_bind (wpAny_setField ho hd (by simp) (wpAny_pure ⟨x,rfl,wpAny_pure (hQ _ ⟨_,Heap.get?_update_self _ ho (Obj.isFreed_of_fields (Obj.data_mapFields hd _)),(Obj.cls_mapFields ..).trans hc,?_⟩ (Heap.SameBut.update ..))⟩));rw[Obj.data_mapFields hd];simp[rawInt]
 unfold Builtin.SmallTypes.nextOf;exact wpAny_bind (wpAny_callSpecial?_slot (name:=Str.ofString "__next__") hit.typeIs F.slot_tuple_iterator_next (wpAny_call_entry F.slot_tuple_iterator_next hit.typeIs F.entry_tuple_iterator_next go (F.args_tuple_iterator_next_1 _)))
theorem pR (hh:A.handled=none) (hit:s.heap.IsTupleIter it t i) (ht:s.heap.IsTuple t its) (hx:its[i]?=none) (hE:∀h' e,Heap.ExtBut it s.heap h'->(∃o,h'.get? e=some o/\o.cls=.type "StopIteration")->E (.ref e) {s with heap:=h'}):wpAny (model prog w) A (Builtin.SmallTypes.nextOf (.ref it)) Q E s:=by
 obtain⟨o,ho,hc,hd⟩:=id hit;obtain⟨ol,hol,_,nl,hdl⟩:=ht;unfold Builtin.SmallTypes.nextOf;refine wpAny_bind (wpAny_callSpecial?_slot (name:=Str.ofString "__next__") hit.typeIs F.slot_tuple_iterator_next (wpAny_call_entry F.slot_tuple_iterator_next hit.typeIs F.entry_tuple_iterator_next ?_ (F.args_tuple_iterator_next_1 _)));show wpAny _ _ (field (.ref it) 0>>=_) _ _ s;refine wpAny_bind (wpAny_field ho hd (x:=.ref t) rfl ?_);show wpAny _ _ (if(Value.ref t==Value.none)=true then _ else _) _ _ s;rw[if_neg (show¬ ((Value.ref t==Value.none)=true)from Bool.false_ne_true)];show wpAny _ _ (field (.ref it) 1>>=_) _ _ s;refine wpAny_bind (wpAny_field ho hd (x:=.int i 0) rfl ?_);show wpAny _ _ (seqItems? (.ref t)>>=_) _ _ s;refine wpAny_bind (wpAny_seqItems hol hdl ?_);simp only[Int.toNat_natCast,hx];refine wpAny_bind (wpAny_rule (wpAny_bind (wpAny_setField ho hd (by simp) ?_)));show wpAny _ _ (newExc (.type "StopIteration") []>>=_) _ _ _;refine wpAny_bind ?_;simp only[newExc,newTuple];refine wpAny_bind (wpAny_newObj_type ?_ (by size_fits));refine wpAny_bind (m:=firstArgMember _ _) (wpAny_of_eq (a:=Value.none) (by first|rfl|(simp only[firstArgMember];rfl)) ?_);refine wpAny_newObj_type ?_ (by size_fits);simp only[raiseNew];refine wpAny_bind (wpAny_handled ?_);first|rw[show A.in1.handled=none from hh]|rw[hh]
 refine wpAny_bind (wpAny_pure (wpAny_throw ?_));exact hE _ _ (((Heap.SameBut.update ..).extBut.push _).push _) ⟨_,Heap.get?_push_size _ rfl,rfl⟩
theorem HH (hit:ItK b s.heap it l i) (ht:CoK b s.heap l its) (hx:its[i]?=some x) (hQ:∀h',ItK b h' it l (i+1)->Heap.SameBut it s.heap h'->Q x {s with heap:=h'}):wpAny (model prog w) A (Builtin.SmallTypes.nextOf (.ref it)) Q E s:=by
 cases b
 ·exact xK hit ht hx hQ
 ·exact wpAny_nextOf_list_item hit ht hx hQ
theorem wd (hh:A.handled=none) (hit:ItK b s.heap it l i) (ht:CoK b s.heap l its) (hx:its[i]?=none) (hE:∀h' e,Heap.ExtBut it s.heap h'->(∃o,h'.get? e=some o/\o.cls=.type "StopIteration")->E (.ref e) {s with heap:=h'}):wpAny (model prog w) A (Builtin.SmallTypes.nextOf (.ref it)) Q E s:=by
 cases b
 ·exact pR hh hit ht hx hE
 ·exact wpAny_nextOf_list_end hh hit ht hx hE
structure ZA (z TI TO i1 i2:Addr):Prop where
 TIz:TI≠z
 TOz:TO≠z
 i1z:i1≠z
 i2z:i2≠z
 TITO:TI≠TO
 TIi1:TI≠i1
 TIi2:TI≠i2
 TOi1:TO≠i1
 TOi2:TO≠i2
 i12:i1≠i2
structure ZL (z TO i1 i2 l:Addr):Prop where
 z:l≠z
 TO:l≠TO
 i1:l≠i1
 i2:l≠i2
structure ZSt (b c:Bool) (z TI TO i1 i2 l1 l2:Addr) (f0:Value) (k:Nat) (h:Heap):Prop where
 ap:ZA z TI TO i1 i2
 hz:IsZip h z TI TO f0
 hI:IsPair h TI (.ref i1) (.ref i2)
 hO:∃a d,IsPair h TO a d
 h1:ItK b h i1 l1 k
 h2:ItK c h i2 l2 k
theorem ItK.ext (x:ItK b h it l k) (e:Heap.SameBut c h h') (hc:it≠c):ItK b h' it l k:=x.at λo q=>e.extBut _ _ hc q
end
section
variable {prog:Program} {w:World} {A:Around} {E:Value->Shared->Prop} {s:Shared}
def mO:Bool->Addr->Obj
 |true,l=>{cls:=.type "list_iterator",data:=.fields #[.ref l,.int 0 0]}
 |false,l=>{cls:=.type "tuple_iterator",data:=.fields #[.ref l,.int 0 0]}
theorem xL (h:CoK b s.heap l its) (hQ:Q (.ref s.heap.objs.size) {s with heap:=s.heap.push (mO b l)}):wpAny (model prog w) A (pyIter (.ref l)) Q E s:=by
 cases b
 ·exact wpAny_pyIter_tuple h hQ
 ·exact wpAny_pyIter_list h hQ
end
section
variable {X:Cx} {pins:List (Addr×Obj)} {Y:List (Option V)} {H:Hp} {s:Shared} {h':Heap}
theorem mP {ch:List Addr} (I:Inv X pins Y H s) (hf:∀b∈ch,H b=none) (k:∀b o,b ∉ ch->s.heap.get? b=some o->h'.get? b=some o):HOk X.prog X.w H h':=λb u e=>by
 have nit:∀b u,H b=some u->b ∉ ch:=λb u e z=>by rw[hf b z]at e;cases e
 refine(I.hok b u e).stay (λc v hc q=>k c v ?_ q) (λ_ q=>q) λ_ _ q=>q;rcases hc with z|z
 ·rw[z];exact nit b u e
 ·exact nit c _ z
theorem CY {ch:List Addr} (hf:∀b∈ch,iR X pins H b):∀b∈ch,(b∈X.ex\/X.s₀.heap.objs.size<=b)/\b≠X.env.locals/\(∀x c,X.env.cells.lookup x=some c->c≠b)/\∀p∈X.pn++pins,p.1≠b:=λb hb=>by
 obtain⟨f0,f1,f2,f3,f4,f5⟩:=hf b hb;exact⟨f3,f1,f4,f5⟩
theorem Inv.turnedL {ch:List Addr} (I:Inv X pins Y H s) (hf:∀b∈ch,iR X pins H b) (k:∀b o,b ∉ ch->s.heap.get? b=some o->h'.get? b=some o):Inv X pins Y H {s with heap:=h',toks:=t'}:=by
 refine I.step (g':=s.gens) (d':=s.drawn) (ch:=ch) (CY hf) (λb o _ _ hc e _=>k b o hc e) (λb o _ _ hc e _=>⟨o.slots,k b o hc e⟩) (λ_ _ _ _ n=>n)
  (λb o hc e=>⟨o,k b o hc e⟩) (λ_ _ e=>e) (λ_ _ _ e=>e) (λb ps e=>⟨#[],by rw[e];simp⟩) (λm hm=>?_) (mP I (λb hb=>(hf b hb).1) k) I.bare
 obtain⟨o,es,ep,ho,r⟩:=hm;exact⟨o,es,ep,k _ o (λz=>(hf _ z).2.1 rfl) ho,r⟩
theorem Inv.turnedNew {ch:List Addr} {p:Addr} (I:Inv X pins Y H s) (hf:∀b∈ch,iR X pins H b) (k:∀b o,b ∉ ch->s.heap.get? b=some o->h'.get? b=some o) (hp:s.heap.objs.size<=p) (new:ObjOk X.prog X.w (upd H p o) h' p o):Inv X pins Y (upd H p o) {s with heap:=h',toks:=t'}:=by
 have hn:H p=none:=I.hok.fresh hp;have lt:∀b o,s.heap.get? b=some o->b≠p:=λb o e=>Nat.ne_of_lt (lt_of_lt_of_le (Heap.lt_size e) hp);have keep:∀b u,H b=some u->upd H p o b=some u:=λb u e=>by rw[ag (ak e hn)];exact e
 refine I.step (g':=s.gens) (d':=s.drawn) (ch:=ch) (CY hf) (λb o _ _ hc e _=>k b o hc e) (λb o _ _ hc e _=>⟨o.slots,k b o hc e⟩) (λb o _ e n=>by rw[ag (lt b o e)];exact n)
  (λb o hc e=>⟨o,k b o hc e⟩) (λb xs e=>keep b _ e) (λb o u e=>keep b _ e) (λb ps e=>⟨#[],by rw[keep b _ e];simp⟩) (λm hm=>?_) ((mP I (λb hb=>(hf b hb).1) k).adopt hn new) I.bare
 obtain⟨o,es,ep,ho,r⟩:=hm;exact⟨o,es,ep,k _ o (λz=>(hf _ z).2.1 rfl) ho,r⟩
def SqK (b:Bool) (K:Frag) (H:Hp) (a:Addr) (xs:List V):Prop:=if b=true then SqL K H a xs else SqT K H a xs
theorem Inv.coK (I:Inv X pins Y H s) (h:SqK b X.K H a xs):∃its:List Value,Vals xs its/\CoK b s.heap a its.toArray/\xs.length<=sizeLine:=by
 cases b
 ·obtain⟨its,r,t,z⟩:=I.tuple (show SqT X.K H a xs from h);exact⟨its,r,t,z⟩
 ·obtain⟨its,r,t,z⟩:=I.list (show SqL X.K H a xs from h);exact⟨its,r,t.isList,z⟩
theorem Inv.coK_inj (I:Inv X pins Y H s) (h:SqK b X.K H a xs) (h':SqK b X.K H a ys):xs=ys:=by
 cases b
 ·exact I.tuple_inj h h'
 ·exact I.list_inj h h'
end
section
variable {X:Cx} {tg a b e:Expr} {es:List Expr} {p pos:Pos}
theorem SqK.mono {b} {K} (s:Same H H') (h:SqK b K H l xs):SqK b K H' l xs:=by
 cases b
 ·exact s.seqT h
 ·exact s.seq h
theorem Eh {K} (h:SqL K H l xs\/SqT K H l xs):∃b,SqK b K H l xs:=by
 rcases h with h|h
 ·exact⟨true,h⟩
 ·exact⟨false,h⟩
def xM:D->Option D
 |.int i=>some (.int (-i))
 |_=>none
theorem xN (ha:PP X a fa):PP X (.UnaryOp .USub a pos) (λU=>(fa U).bind xM):=λO U=>(GG DU (ha O U)).imp λY H Q ⟨E,d,q,k⟩=>by
 obtain⟨c,e1,e2⟩:=bind_some q;refine⟨E,c,e1,λv H1 s1 i1=>?_⟩;cases c with
 |int i=>cases e2;exact⟨i,i1,k _ H1 s1 rfl⟩
 |_=>cases e2
theorem b_max:bootBuiltins "max"=some (.builtin "max"):=by decide+kernel
def Ku:List D->Option D:=un2 λc d=>(ra c).bind λi=>(ra d).bind λj=>some (.int (if j<i then j else i))
def Ei:D->Bool
 |.non=>true
 |_=>false
theorem Bg {K} (h:Is K H d v):decide (v=.non)=Ei d:=by
 cases d with
 |non=>cases(show v=_ from h);rfl
 |bl _=>cases(show v=_ from h);rfl
 |int _=>cases(show v=_ from h);rfl
 |str _=>cases(show v=_ from h);rfl
 |ty _=>cases(show v=_ from h);rfl
 |adr _=>cases(show v=_ from h);rfl
 |tup _=>obtain⟨a,xs,rfl,_⟩:=h;rfl
 |lst _=>obtain⟨a,xs,rfl,_⟩:=h;rfl
 |obj _ _ _=>obtain⟨a,Ca,dx,fs,rfl,_⟩:=h;rfl
 |dct _ _=>obtain⟨a,kvs,rfl,_⟩:=h;rfl
def Bh (neg:Bool):D->D->Option D
 |d,.non=>some (.bl (if neg then !Ei d else Ei d))
 |_,_=>none
theorem r_isN {K}:R2D K (λx y H Q=>y=.non/\Q (.bl (decide (x=.non))) H) (Bh false):=λO H x y dx dy d Q _ ix iy e k=>by
 cases dy with
 |non=>cases e;exact⟨iy,k _ H (Same.refl _) (by rw[Bg ix];rfl)⟩
 |_=>cases e
def tm:D->D->Option D
 |x,.lst ds=>if aZ x&&ds.all aZ then some (.bl (!inL x ds))else none
 |x,.tup ds=>if aZ x&&ds.all aZ then some (.bl (!inL x ds))else none
 |_,_=>none
theorem r_notIn {K}:R2D K (rIn K true) tm:=λO H x y dx dy d Q hd ix iy e k=>by
 cases dy with
 |lst ds=>
  obtain⟨h1,h2⟩:=ay (show(if(aZ dx&&ds.all aZ)=true then _ else none)=some d from e);rw[and_eq_true]at h1;subst h2;obtain⟨p,xs,rfl,q,l⟩:=iy;obtain⟨e1,e2⟩:=ii h1.1 ix;obtain⟨e3,e4⟩:=gA h1.2 l;exact⟨p,xs,rfl,.inl (msk_le.seq q),e2,e4,k _ H (Same.refl _) (by rw[e1,e3];rfl)⟩
 |tup ds=>
  obtain⟨h1,h2⟩:=ay (show(if(aZ dx&&ds.all aZ)=true then _ else none)=some d from e);rw[and_eq_true]at h1;subst h2;obtain⟨p,xs,rfl,q,l⟩:=iy;obtain⟨e1,e2⟩:=ii h1.1 ix;obtain⟨e3,e4⟩:=gA h1.2 l;exact⟨p,xs,rfl,.inr (msk_le.seqT q),e2,e4,k _ H (Same.refl _) (by rw[e1,e3];rfl)⟩
 |_=>cases e
def PPo (X:Cx) (e:Option Expr) (f:Vv->Option (Option Int)):Prop:=∀O U,PO X e (λY H Q=>VE X.K O Y H U/\∃i,f U=some i/\∀H',Same H H'->Q i H')
theorem PO.imp {e} (h:PO X e t) (k:∀Y H Q,t' Y H Q->t Y H Q):PO X e t':=λpins s Y H Q I q=>h pins s Y H Q I (k _ _ _ q)
theorem xO:PPo X none (λ_=>some none):=λO U=>po_none.imp λY H Q ⟨E,i,q,k⟩=>by
 cases q;exact k H (Same.refl _)
def xP (f:Vv->Option D):Vv->Option (Option Int):=λU=>(f U).bind λd=>(ra d).bind λi=>some (some i)
theorem xQ (h:PP X e f):PPo X (some e) (xP f):=λO U=>(AQ (h O U)).imp λY H Q ⟨E,i,q,k⟩=>by
 obtain⟨d,q1,q2⟩:=bind_some q;obtain⟨j,q3,q4⟩:=bind_some q2;cases q4;refine⟨E,d,q1,λv H1 s1 iv=>?_⟩;cases intD_some q3;exact⟨j,iv,k H1 s1⟩
end
inductive Cat where
 |sh
 |top
 |deep
 deriving DecidableEq
mutual
def lfD:D->Bool
 |.tup ds=>lfL ds
 |.lst _=>false
 |.obj _ _ _=>false
 |.dct _ _=>false
 |_=>true
def lfL:List D->Bool
 |[]=>true
 |d::ds=>lfD d&&lfL ds
end
mutual
def Deep (K:Frag) (M H:Hp):D->V->List Addr->Prop
 |.non,v,A=>v=.non/\A=[]
 |.bl b,v,A=>v=.bl b/\A=[]
 |.int i,v,A=>v=.int i/\A=[]
 |.str x,v,A=>v=.str x/\A=[]
 |.ty n,v,A=>v=.ty n/\A=[]
 |.adr a,v,A=>v=.ref a/\A=[]
 |.tup ds,v,A=>∃a xs,v=.ref a/\(M a=some (.tup xs)\/(lfL ds=true/\SqT K M a xs))/\DeepL K M H ds xs A
 |.lst ds,v,A=>∃a xs A',v=.ref a/\H a=some (.lst xs)/\A=a::A'/\DeepL K M H ds xs A'
 |.obj _ _ _,_,_=>False
 |.dct ks ds,v,A=>∃a kvs A',v=.ref a/\H a=some (.dK kvs)/\kvs.map (·.1)=ks/\A=a::A'/\DeepL K M H ds (kvs.map (·.2)) A'
def DeepL (K:Frag) (M H:Hp):List D->List V->List Addr->Prop
 |[],xs,A=>xs=[]/\A=[]
 |d::ds,xs,A=>∃x r A1 A2,xs=x::r/\A=A1++A2/\Deep K M H d x A1/\DeepL K M H ds r A2
end
def NL (M M':Hp):Prop:=∀b o,M b=some o->¬Hid (some o)->M' b=some o
theorem NL.of (s:Same M M'):NL M M':=λb o h _=>s b o h
theorem NL.trans (s:NL M M') (t:NL M' M''):NL M M'':=λb o h q=>t b o (s b o h q) q
theorem uR:¬Hid (some (.tup xs)):=by rintro(⟨_,z⟩|⟨_,_,_,z⟩|⟨_,z⟩)<;>cases z
theorem Bi:¬Hid (some (.frz o u)):=by rintro(⟨_,z⟩|⟨_,_,_,z⟩|⟨_,z⟩)<;>cases z
theorem NL.seqT {K} (e:NL H H') (h:SqT K H a xs):SqT K H' a xs:=by
 rcases h with(h|⟨o,h⟩)|h
 ·exact .inl (.inl (e _ _ h uR))
 ·exact .inl (.inr ⟨o,e _ _ h Bi⟩)
 ·exact .inr h
theorem tupAt {K} (s:NL M M') (h:M a=some (.tup xs)\/(lfL ds=true/\SqT K M a xs)):M' a=some (.tup xs)\/(lfL ds=true/\SqT K M' a xs):=by
 rcases h with h|⟨f,h⟩
 ·exact .inl (s _ _ h uR)
 ·exact .inr ⟨f,s.seqT h⟩
theorem HI {K} (s:NL M M') (h:M a=some (.tup xs)\/(lfL ds=true/\SqT K M a xs)):SqT K M' a xs:=by
 rcases tupAt s h with h|⟨_,h⟩
 ·exact .of h
 ·exact h
mutual
theorem Deep.frame {K:Frag} {M M' H H':Hp} (s:NL M M'):∀ (d:D) (v:V) (A:List Addr),(∀a∈A,∀o,H a=some o->H' a=some o)->Deep K M H d v A->Deep K M' H' d v A
 |.non,_,_,_,h=>h
 |.bl _,_,_,_,h=>h
 |.int _,_,_,_,h=>h
 |.str _,_,_,_,h=>h
 |.ty _,_,_,_,h=>h
 |.adr _,_,_,_,h=>h
 |.tup ds,_,A,k,⟨a,xs,e,q,l⟩=>⟨a,xs,e,tupAt s q,DeepL.frame s ds xs A k l⟩
 |.lst ds,_,A,k,⟨a,xs,A',e,q,z,l⟩=>⟨a,xs,A',e,k a (by rw[z];exact mem_cons_self) _ q,z,DeepL.frame s ds xs A' (λb hb=>k b (by rw[z];exact mem_cons_of_mem _ hb)) l⟩
 |.obj _ _ _,_,_,_,h=>h.elim
 |.dct ks ds,_,A,k,⟨a,kvs,A',e,q,y,z,l⟩=>⟨a,kvs,A',e,k a (by rw[z];exact mem_cons_self) _ q,y,z,DeepL.frame s ds _ A' (λb hb=>k b (by rw[z];exact mem_cons_of_mem _ hb)) l⟩
theorem DeepL.frame {K:Frag} {M M' H H':Hp} (s:NL M M'):∀ (ds:List D) (xs:List V) (A:List Addr),(∀a∈A,∀o,H a=some o->H' a=some o)->DeepL K M H ds xs A->DeepL K M' H' ds xs A
 |[],_,_,_,h=>h
 |d::ds,_,A,k,⟨x,r,A1,A2,e,z,h,l⟩=>⟨x,r,A1,A2,e,z,Deep.frame s d x A1 (λb hb=>k b (by rw[z];exact mem_append_left _ hb)) h,DeepL.frame s ds r A2 (λb hb=>k b (by rw[z];exact mem_append_right _ hb)) l⟩
end
mutual
theorem Deep.is {K:Frag} {M M' H:Hp} (s:NL M M'):∀ (d:D) (v:V) (A:List Addr),(∀a∈A,∀o,H a=some o->M' a=some o)->Deep K M H d v A->Is K M' d v
 |.non,_,_,_,h=>h.1
 |.bl _,_,_,_,h=>h.1
 |.int _,_,_,_,h=>h.1
 |.str _,_,_,_,h=>h.1
 |.ty _,_,_,_,h=>h.1
 |.adr _,_,_,_,h=>h.1
 |.tup ds,_,A,k,⟨a,xs,e,q,l⟩=>⟨a,xs,e,HI s q,DeepL.is s ds xs A k l⟩
 |.lst ds,_,A,k,⟨a,xs,A',e,q,z,l⟩=>⟨a,xs,e,.of (k a (by rw[z];exact mem_cons_self) _ q),DeepL.is s ds xs A' (λb hb=>k b (by rw[z];exact mem_cons_of_mem _ hb)) l⟩
 |.obj _ _ _,_,_,_,h=>h.elim
 |.dct ks ds,_,A,k,⟨a,kvs,A',e,q,y,z,l⟩=>⟨a,kvs,e,.inl (k a (by rw[z];exact mem_cons_self) _ q),y,DeepL.is s ds _ A' (λb hb=>k b (by rw[z];exact mem_cons_of_mem _ hb)) l⟩
theorem DeepL.is {K:Frag} {M M' H:Hp} (s:NL M M'):∀ (ds:List D) (xs:List V) (A:List Addr),(∀a∈A,∀o,H a=some o->M' a=some o)->DeepL K M H ds xs A->IsL K M' ds xs
 |[],_,_,_,h=>h.1
 |d::ds,_,A,k,⟨x,r,A1,A2,e,z,h,l⟩=>⟨x,r,e,Deep.is s d x A1 (λb hb=>k b (by rw[z];exact mem_append_left _ hb)) h,DeepL.is s ds r A2 (λb hb=>k b (by rw[z];exact mem_append_right _ hb)) l⟩
end
mutual
theorem Is.deep {K:Frag} {M H:Hp}:∀ (d:D) (v:V),lfD d=true->Is K M d v->Deep K M H d v []
 |.non,_,_,h=>⟨h,rfl⟩
 |.bl _,_,_,h=>⟨h,rfl⟩
 |.int _,_,_,h=>⟨h,rfl⟩
 |.str _,_,_,h=>⟨h,rfl⟩
 |.ty _,_,_,h=>⟨h,rfl⟩
 |.adr _,_,_,h=>⟨h,rfl⟩
 |.tup ds,_,f,⟨a,xs,e,q,l⟩=>⟨a,xs,e,.inr ⟨f,q⟩,IsL.deep ds xs f l⟩
 |.lst _,_,f,_=>by cases f
 |.obj _ _ _,_,f,_=>by cases f
 |.dct _ _,_,f,_=>by cases f
theorem IsL.deep {K:Frag} {M H:Hp}:∀ (ds:List D) (xs:List V),lfL ds=true->IsL K M ds xs->DeepL K M H ds xs []
 |[],_,_,h=>⟨h,rfl⟩
 |d::ds,_,f,⟨x,r,e,h,l⟩=>by
  have f':(lfD d&&lfL ds)=true:=f;rw[and_eq_true]at f';exact⟨x,r,[],[],e,rfl,Is.deep d x f'.1 h,IsL.deep ds r f'.2 l⟩
end
mutual
theorem Deep.lf {K:Frag} {M H:Hp}:∀ (d:D) (v:V) (A:List Addr),lfD d=true->Deep K M H d v A->A=[]
 |.non,_,_,_,h=>h.2
 |.bl _,_,_,_,h=>h.2
 |.int _,_,_,_,h=>h.2
 |.str _,_,_,_,h=>h.2
 |.ty _,_,_,_,h=>h.2
 |.adr _,_,_,_,h=>h.2
 |.tup ds,_,A,f,⟨a,xs,e,q,l⟩=>DeepL.lf ds xs A f l
 |.lst _,_,_,f,_=>by cases f
 |.obj _ _ _,_,_,f,_=>by cases f
 |.dct _ _,_,_,f,_=>by cases f
theorem DeepL.lf {K:Frag} {M H:Hp}:∀ (ds:List D) (xs:List V) (A:List Addr),lfL ds=true->DeepL K M H ds xs A->A=[]
 |[],_,_,_,h=>h.2
 |d::ds,_,A,f,⟨x,r,A1,A2,e,z,h,l⟩=>by
  have f':(lfD d&&lfL ds)=true:=f;rw[and_eq_true]at f';rw[z,Deep.lf d x A1 f'.1 h,DeepL.lf ds r A2 f'.2 l];rfl
end
mutual
theorem Is.nl {K:Frag} {M M':Hp} (s:NL M M'):∀ (d:D) (v:V),lfD d=true->Is K M d v->Is K M' d v
 |.non,_,_,h=>h
 |.bl _,_,_,h=>h
 |.int _,_,_,h=>h
 |.str _,_,_,h=>h
 |.ty _,_,_,h=>h
 |.adr _,_,_,h=>h
 |.tup ds,_,f,⟨a,xs,e,q,l⟩=>⟨a,xs,e,s.seqT q,IsL.nl s ds xs f l⟩
 |.lst _,_,f,_=>by cases f
 |.obj _ _ _,_,f,_=>by cases f
 |.dct _ _,_,f,_=>by cases f
theorem IsL.nl {K:Frag} {M M':Hp} (s:NL M M'):∀ (ds:List D) (xs:List V),lfL ds=true->IsL K M ds xs->IsL K M' ds xs
 |[],_,_,h=>h
 |d::ds,_,f,⟨x,r,e,h,l⟩=>by
  have f':(lfD d&&lfL ds)=true:=f;rw[and_eq_true]at f';exact⟨x,r,e,Is.nl s d x f'.1 h,IsL.nl s ds r f'.2 l⟩
end
def OwnC (K:Frag) (O:Addr->Bool) (H:Hp):Cat->D->V->List Addr->Prop
 |.sh,d,v,A=>A=[]/\Is K (msk O H) d v
 |.top,d,v,A=>∃a ds xs,d=.lst ds/\v=.ref a/\A=[a]/\H a=some (.lst xs)/\IsL K (msk O H) ds xs
 |.deep,d,v,A=>Deep K (msk O H) H d v A
theorem OwnC.frame {K} (s:Same (msk O H) (msk O' H')) (k:∀a∈A,∀o,H a=some o->H' a=some o) (h:OwnC K O H c d v A):OwnC K O' H' c d v A:=by
 cases c with
 |sh=>exact⟨h.1,Is.mono s d v h.2⟩
 |top=>
  obtain⟨a,ds,xs,e1,e2,e3,e4,l⟩:=h;exact⟨a,ds,xs,e1,e2,e3,k a (by rw[e3];exact mem_cons_self) _ e4,IsL.mono s ds xs l⟩
 |deep=>exact Deep.frame (NL.of s) d v A k h
theorem OwnC.is {K} (s:Same (msk O H) (msk O' H)) (k:∀a∈A,O' a=false) (h:OwnC K O H c d v A):Is K (msk O' H) d v:=by
 cases c with
 |sh=>exact Is.mono s d v h.2
 |top=>
  obtain⟨a,ds,xs,e1,e2,e3,e4,l⟩:=h;subst e1;exact⟨a,xs,e2,.of (by rw[aK (k a (by rw[e3];exact mem_cons_self))];exact e4),IsL.mono s ds xs l⟩
 |deep=>exact Deep.is (NL.of s) d v A (λa ha o e=>by rw[aK (k a ha)];exact e) h
abbrev Sl:=Cat×D
abbrev Ev:=List (Option Sl)
structure Bs where
 H:Hp
 O:Addr->Bool
structure EnvOk (K:Frag) (B:Bs) (O:Addr->Bool) (Y:St) (H:Hp) (U:Ev):Prop where
 same:Same B.H H
 bdom:∀b,B.O b=true->B.H b≠none
 sub:∀b,B.O b=true->O b=true
 lis:∀b,O b=true->Hid (H b)
 len:Y.length=U.length
 fp:∃F:Nat->List Addr,(∀ (i:Nat) (s:Sl),U[i]?=some (some s)->∃v,Y[i]?=some (some v)/\OwnC K O H s.1 s.2 v (F i))/\
  (∀i,(F i).Nodup)/\(∀i j a,a∈F i->a∈F j->i=j)/\∀i a,a∈F i->O a=true/\B.H a=none
def noO:Addr->Bool:=λ_=>false
theorem dL:msk noO H=H:=by
 funext b;unfold msk noO;rw[if_neg Bool.false_ne_true]
def vw (U:Ev):Vv:=U.map λs=>s.map (·.2)
def HJ:Option Sl->Option D
 |some (.sh,d)=>some d
 |some (_,d)=>if lfD d then some d else none
 |none=>none
def shv (U:Ev):Vv:=U.map HJ
def fM (U:Ev):Ev:=U.map λs=>s.map λx=>(Cat.sh,x.2)
section
variable {K:Frag} {B:Bs} {O:Addr->Bool} {Y:St} {H H':Hp} {U:Ev}
theorem EnvOk.dom (E:EnvOk K B O Y H U):∀b,O b=true->H b≠none:=λb h=>(E.lis b h).ne
theorem EnvOk.nl (E:EnvOk K B O Y H U):NL H (msk O H):=λb o h q=>by
 cases e:O b with
 |false=>rw[aK e];exact h
 |true=>
  have h':=E.lis b e;rw[h]at h';exact(q h').elim
theorem EnvOk.grow (E:EnvOk K B O Y H U) (s:Same H H'):EnvOk K B O Y H' U where
 same:=E.same.trans s
 bdom:=E.bdom
 sub:=E.sub
 lis:=λb h=>(E.lis b h).same s
 len:=E.len
 fp:=by
  obtain⟨F,h1,h2,h3,h4⟩:=E.fp;refine⟨F,λi x q=>?_,h2,h3,h4⟩;obtain⟨v,e,o⟩:=h1 i x q;exact⟨v,e,o.frame s.msk λa _ u hu=>s _ _ hu⟩
theorem EnvOk.fresh (E:EnvOk K B O Y H U) (h:H p=none):O p=false:=gy E.dom h
theorem pS {α β:Type} {f} {l:List (Option α)} {i:Nat} {y:β} (h:(l.map f)[i]?=some (some y)):∃x,l[i]?=some x/\f x=some y:=by
 rw[getElem?_map]at h;cases e:l[i]? with
 |none=>rw[e]at h;cases h
 |some x=>rw[e]at h;exact⟨x,rfl,Option.some.inj h⟩
theorem EnvOk.view (E:EnvOk K B O Y H U):VE K noO Y H (vw U) where
 lis:=λb h=>by cases h
 len:=by unfold vw;rw[length_map];exact E.len
 sh:=λi d q=>by
  obtain⟨F,h1,h2,h3,h4⟩:=E.fp;obtain⟨x,e,z⟩:=pS q;cases x with
  |none=>cases z
  |some s=>
   cases z;obtain⟨v,e1,o⟩:=h1 i s e;exact⟨v,e1,o.is (O':=noO) (by rw[dL];exact msk_le) λ_ _=>rfl⟩
theorem EnvOk.viewS (E:EnvOk K B O Y H U):VE K O Y H (shv U) where
 lis:=E.lis
 len:=by unfold shv;rw[length_map];exact E.len
 sh:=λi d q=>by
  obtain⟨F,h1,h2,h3,h4⟩:=E.fp;obtain⟨x,e,z⟩:=pS q;cases x with
  |none=>cases z
  |some s=>
   obtain⟨c,d'⟩:=s;obtain⟨v,e1,o⟩:=h1 i _ e;refine⟨v,e1,?_⟩;cases c with
   |sh=>cases z;exact o.2
   |top=>
    obtain⟨a,ds,xs,z1,_⟩:=o;have z':(if lfD d' then some d' else none)=some d:=z;rw[show d'=.lst ds from z1]at z';cases z'
   |deep=>
    obtain⟨f,z'⟩:=ay (show(if lfD d'=true then some d' else none)=some d from z);subst z';have hA:=Deep.lf d' v (F i) f o;exact Deep.is (NL.of (Same.refl _)) d' v (F i) (λa ha=>by rw[hA]at ha;cases ha) o
theorem EnvOk.frozen (E:EnvOk K B O Y H U):EnvOk K B B.O Y H (fM U)/\Same (msk O H) (msk B.O H):=by
 have le:Same (msk O H) (msk B.O H):=λb o h=>by
  obtain⟨h1,h2⟩:=aD h;rw[aK ?_];exact h2;cases e:B.O b with
  |false=>rfl
  |true=>rw[E.sub b e]at h1;cases h1
 refine⟨⟨E.same,E.bdom,λ_ h=>h,λb h=>E.lis b (E.sub b h),by unfold fM;rw[length_map];exact E.len,λ_=>[],λi s q=>?_,λ_=>List.nodup_nil,λ_ _ _ h=>(nomatch h),λ_ _ h=>(nomatch h)⟩,le⟩;obtain⟨F,h1,h2,h3,h4⟩:=E.fp;obtain⟨x,e,z⟩:=pS q;cases x with
 |none=>cases z
 |some s'=>
  cases z;obtain⟨v,e1,o⟩:=h1 i _ e;refine⟨v,e1,rfl,o.is le λa ha=>?_⟩;cases e:B.O a with
  |false=>rfl
  |true=>exact absurd (h4 i a ha).2 (E.bdom a e)
theorem EnvOk.viewF (E:EnvOk K B O Y H U):VE K B.O Y H (vw U):=by
 have h:=E.frozen.1.viewS;have e:shv (fM U)=vw U:=by
  unfold shv fM vw;rw[List.map_map];apply List.map_congr_left;intro x _;cases x<;>rfl
 rw[e]at h;exact h
theorem EnvOk.more (E:EnvOk K B O Y H U) {c:Cat} {d:D} {v:V} {A:List Addr} {O':Addr->Bool} (s:Same H H') (le:Same (msk O H) (msk O' H')) (hO:∀b,O' b=true->O b=true\/b∈A) (hO2:∀b,O b=true->O' b=true) (hO3:∀b∈A,O' b=true)
  (hl:∀a∈A,Hid (H' a)) (nd:A.Nodup) (fr:∀a∈A,H a=none) (h:OwnC K O' H' c d v A):EnvOk K B O' (Y++[some v]) H' (U++[some (c,d)]) where
 same:=E.same.trans s
 bdom:=E.bdom
 sub:=λb q=>hO2 b (E.sub b q)
 lis:=λb q=>by
  rcases hO b q with q|q
  ·exact(E.lis b q).same s
  ·exact hl b q
 len:=by rw[length_append,length_append,E.len];rfl
 fp:=by
  obtain⟨F,h1,h2,h3,h4⟩:=E.fp;have no:∀i a,a∈F i->a ∉ A:=λi a ha hA=>E.dom a (h4 i a ha).1 (fr a hA);refine⟨λi=>if i=U.length then A else F i,λi x q=>?_,λi=>?_,λi j a hi hj=>?_,λi a hi=>?_⟩
  ·by_cases hi:i=U.length
   ·subst hi;rw[getElem?_append_right (le_refl _)]at q;simp at q;subst q;refine⟨v,?_,by simp only[if_true];exact h⟩;rw[getElem?_append_right (Nat.le_of_eq E.len),E.len];simp
   ·have hi2:i<U.length:=by
     by_cases h:i<U.length
     ·exact h
     ·rw[getElem?_append_right (by omega)]at q;have:i-U.length≠0:=by omega
      cases hk:i-U.length with
      |zero=>omega
      |succ m=>rw[hk]at q;simp at q
    rw[getElem?_append_left hi2]at q;obtain⟨w,e,o⟩:=h1 i x q;refine⟨w,?_,?_⟩
    ·rw[getElem?_append_left (by rw[E.len];exact hi2)];exact e
    ·simp only[if_neg hi];exact o.frame le λa ha u hu=>s _ _ hu
  ·dsimp only;split
   ·exact nd
   ·exact h2 i
  ·dsimp only at hi hj;split at hi<;>split at hj
   ·omega
   ·exact absurd hi (no j a hj)
   ·exact absurd hj (no i a hi)
   ·exact h3 i j a hi hj
  ·dsimp only at hi;split at hi
   ·exact⟨hO3 a hi,E.same.free (fr a hi)⟩
   ·exact⟨hO2 a (h4 i a hi).1,(h4 i a hi).2⟩
theorem getElem?_last {α:Type} (l:List α) (x:α):(l++[x])[l.length]?=some x:=by
 rw[getElem?_append_right (le_refl _)];simp
theorem dZ {α:Type} {l} {x} (h:i≠l.length) {y:α} (e:(l++[x])[i]?=some y):l[i]?=some y:=by
 by_cases hi:i<l.length
 ·rw[getElem?_append_left hi]at e;exact e
 ·rw[getElem?_append_right (by omega)]at e;cases hk:i-l.length with
  |zero=>omega
  |succ m=>rw[hk]at e;simp at e
theorem EnvOk.put {v:V} {s:Sl} (E:EnvOk K B O (Y++[some v]) H (U++[some s])) (i:Nat):EnvOk K B O (Y.set i (some v)) H (U.set i (some s)) where
 same:=E.same
 bdom:=E.bdom
 sub:=E.sub
 lis:=E.lis
 len:=by have:=E.len;simp at this⊢;exact this
 fp:=by
  obtain⟨F,h1,h2,h3,h4⟩:=E.fp;have len:Y.length=U.length:=by have:=E.len;simp at this;exact this
  obtain⟨v',e1,o1⟩:=h1 U.length s (getElem?_last _ _);rw[<-len,getElem?_last]at e1;cases e1;refine⟨λj=>if j=i then F U.length else if j=U.length then[]else F j,λj x q=>?_,λj=>?_,λj k a hj hk=>?_,λj a hj=>?_⟩
  ·rcases get_set_some q with⟨e,q'⟩|⟨e,q'⟩
   ·cases q';subst e;have hi:j<Y.length:=by rw[len];exact oN q
    exact⟨v,by simp[hi],by simp only[if_true];exact o1⟩
   ·have hj:j≠U.length:=by
     have:=(List.getElem?_eq_some_iff.mp q').1;omega
    obtain⟨w,e2,o2⟩:=h1 j x (by rw[getElem?_append_left (List.getElem?_eq_some_iff.mp q').1];exact q');refine⟨w,?_,by simp only[if_neg e,if_neg hj];exact o2⟩;rw[List.getElem?_set_ne (Ne.symm e)];exact dZ (by rw[len];exact hj) e2
  ·dsimp only;split
   ·exact h2 _
   ·split
    ·exact List.nodup_nil
    ·exact h2 _
  ·dsimp only at hj hk;split at hj
   ·split at hk
    ·omega
    ·split at hk
     ·cases hk
     ·have:=h3 _ _ a hj hk;omega
   ·split at hj
    ·cases hj
    ·split at hk
     ·have:=h3 _ _ a hj hk;omega
     ·split at hk
      ·cases hk
      ·exact h3 _ _ a hj hk
  ·dsimp only at hj;split at hj
   ·exact h4 _ a hj
   ·split at hj
    ·cases hj
    ·exact h4 _ a hj
theorem EnvOk.drop {v:V} {s:Sl} (E:EnvOk K B O (Y++[some v]) H (U++[some s])):EnvOk K B O Y H U where
 same:=E.same
 bdom:=E.bdom
 sub:=E.sub
 lis:=E.lis
 len:=by have:=E.len;simp at this;exact this
 fp:=by
  obtain⟨F,h1,h2,h3,h4⟩:=E.fp;have len:Y.length=U.length:=by have:=E.len;simp at this;exact this
  refine⟨F,λj x q=>?_,h2,h3,h4⟩;have hj:=(List.getElem?_eq_some_iff.mp q).1;obtain⟨w,e2,o2⟩:=h1 j x (by rw[getElem?_append_left hj];exact q);exact⟨w,dZ (by omega) e2,o2⟩
theorem EnvOk.setSh (E:EnvOk K B O Y H U) (h:Is K (msk O H) d v):EnvOk K B O (Y.set i (some v)) H (U.set i (some (.sh,d))):=
 (E.more (c:=.sh) (A:=[]) (O':=O) (Same.refl _) (Same.refl _) (λ_ h=>.inl h) (λ_ h=>h) (λ_ h=>(nomatch h)) (λ_ h=>(nomatch h)) List.nodup_nil (λ_ h=>(nomatch h)) ⟨rfl,h⟩).put i
end
mutual
theorem Deep.lists {K:Frag} {M H:Hp}:∀ (d:D) (v:V) (A:List Addr),Deep K M H d v A->∀a∈A,Hid (H a)
 |.non,_,_,h,_,q=>by rw[h.2]at q;cases q
 |.bl _,_,_,h,_,q=>by rw[h.2]at q;cases q
 |.int _,_,_,h,_,q=>by rw[h.2]at q;cases q
 |.str _,_,_,h,_,q=>by rw[h.2]at q;cases q
 |.ty _,_,_,h,_,q=>by rw[h.2]at q;cases q
 |.adr _,_,_,h,_,q=>by rw[h.2]at q;cases q
 |.tup ds,_,A,⟨a,xs,e,_,l⟩,b,q=>DeepL.lists ds xs A l b q
 |.lst ds,_,A,⟨a,xs,A',e,h,z,l⟩,b,q=>by
  rw[z]at q;rcases mem_cons.mp q with rfl|q
  ·exact .inl ⟨xs,h⟩
  ·exact DeepL.lists ds xs A' l b q
 |.obj _ _ _,_,_,h,_,_=>h.elim
 |.dct ks ds,_,A,⟨a,kvs,A',e,h,y,z,l⟩,b,q=>by
  rw[z]at q;rcases mem_cons.mp q with rfl|q
  ·exact .inr (.inr ⟨kvs,h⟩)
  ·exact DeepL.lists ds _ A' l b q
theorem DeepL.lists {K:Frag} {M H:Hp}:∀ (ds:List D) (xs:List V) (A:List Addr),DeepL K M H ds xs A->∀a∈A,Hid (H a)
 |[],_,_,h,_,q=>by rw[h.2]at q;cases q
 |d::ds,_,A,⟨x,r,A1,A2,e,z,h,l⟩,b,q=>by
  rw[z]at q;rcases mem_append.mp q with q|q
  ·exact Deep.lists d x A1 h b q
  ·exact DeepL.lists ds r A2 l b q
end
theorem DeepL.len {K}:∀ {ds:List D} {xs:List V} {A:List Addr},DeepL K M H ds xs A->ds.length=xs.length
 |[],_,_,h=>by rw[h.1];rfl
 |_::_,_,_,⟨x,r,A1,A2,e,z,h,l⟩=>by rw[e,length_cons,length_cons,DeepL.len l]
theorem DeepL.snoc {K} (h:Deep K M H y v A'):∀ {ds:List D} {xs:List V} {A:List Addr},DeepL K M H ds xs A->DeepL K M H (ds++[y]) (xs++[v]) (A++A')
 |[],_,_,l=>by
  rw[l.1,l.2];exact⟨v,[],A',[],rfl,by simp,h,rfl,rfl⟩
 |d::ds,_,_,⟨x,r,A1,A2,e,z,q,l⟩=>by
  rw[e,z];exact⟨x,r++[v],A1,A2++A',rfl,by rw[List.append_assoc],q,DeepL.snoc h l⟩
def PU (X:Cx) (e:Expr) (t:TE):Prop:=PE X e t/\∀ (i:Nat) (x:Str) (px spos:Pos),X.N.Nodup->X.N[i]?=some x->X.env.scope.names.lookup x=some .local->
 swapsWith e (some (.Name x px)) spos.line X.env=pure true->PS X (.Assign [.Name x px] e spos) (wO t (qM i))
theorem PU.imp (h:PU X e t) (k:∀Y H Q,t' Y H Q->t Y H Q):PU X e t':=
 ⟨h.1.imp k,λi x px spos a b c d=>(h.2 i x px spos a b c d).imp λEn Y H q=>k Y H _ q⟩
theorem PE.by2 (h1:PE X e t1) (h2:PE X e t2) (k:∀Y H Q,t Y H Q->t1 Y H Q\/t2 Y H Q):PE X e t:=λpins s Y H Q I q=>(k Y H Q q).elim (h1 pins s Y H Q I) (h2 pins s Y H Q I)
theorem PS.by2 (h1:PS X e t1) (h2:PS X e t2) (k:∀En Y H,t En Y H->t1 En Y H\/t2 En Y H):PS X e t:=λpins s Y H Q I q=>(k Q Y H q).elim (h1 pins s Y H Q I) (h2 pins s Y H Q I)
theorem PU.by2 (h1:PU X e t1) (h2:PU X e t2) (k:∀Y H Q,t Y H Q->t1 Y H Q\/t2 Y H Q):PU X e t:=
 ⟨h1.1.by2 h2.1 k,λi x px spos a b c d=>(h1.2 i x px spos a b c d).by2 (h2.2 i x px spos a b c d) λEn Y H q=>k Y H _ q⟩
theorem PU.ex {ι:Type} {t:ι->TE} (h:∀z,PU X e (t z)):PU X e (λY H Q=>∃z,t z Y H Q):=
 ⟨PE.ex λz=>(h z).1,λi x px spos a b c d pins s Y H D I ⟨z,q⟩=>(h z).2 i x px spos a b c d pins s Y H D I q⟩
def bT:Expr->Bool
 |.ListComp _ _ _ _=>true
 |.SetComp _ _ _ _=>true
 |.DictComp _ _ _ _ _=>true
 |_=>false
theorem swaps_no (h:bT e=false) (t:Option Expr) (l:Nat) (env:Env):swapsWith e t l env=pure false:=by
 cases e<;>first|rfl|cases h
theorem PE.pu (h:PE X e t) (hc:bT e=false):PU X e t:=⟨h,λi x px spos _ _ _ q=>by
 rw[swaps_no hc]at q;have q':(Sem.pure false:Sem Bool)=Sem.pure true:=q;cases q'⟩
theorem uS (hc:X.calm=true) (S:CSc X scope ks) (hi:PI X tg iter wi) (hg:∀C s H fp,PG (cxC X scope C s H fp) tg g) (htt:∀C s H fp,PTs (cxC X scope C s H fp) ifs tt) (he:∀C s H fp,PE (cxC X scope C s H fp) elt te) (hs:∀x,foldedSetIterable iter X.env x=pure x):PU X (.ListComp elt [⟨tg,iter,ifs,0⟩] scope pos) (qU wi ks g tt te):=
 ⟨uK hc S hi hg htt he hs,λi x px spos hN hx hl hsw=>AX hN hx hl hc S hi hg htt he hsw hs⟩
def tFr (K:Frag) (U:Vv) (o:Option D):TE:=λY H Q=>VE K noO Y H U/\∃d,o=some d/\∀v H' A,Same H H'->Deep K H' H' d v A->A.Nodup->(∀a∈A,H a=none)->Q v H'
def Kv (K:Frag) (U:Vv) (o:Option (List D)):TA:=λY H Q=>VE K noO Y H U/\∃ds,o=some ds/\∀vs H' A,Same H H'->DeepL K H' H' ds vs A->A.Nodup->(∀a∈A,H a=none)->Q vs H'
def PFr (X:Cx) (e:Expr) (f:Vv->Option D):Prop:=∀U,PU X e (tFr X.K U (f U))
def rh (X:Cx) (es:List Expr) (f:Vv->Option (List D)):Prop:=∀U,PA X es (Kv X.K U (f U))
def PPu (X:Cx) (e:Expr) (f:Vv->Option D):Prop:=∀O U,PU X e (tP X.K O U (f U))
def PFu (X:Cx) (e:Expr) (f:Vv->Option (List D)):Prop:=∀O U,PU X e (tPF X.K O U (f U))
section
variable {X:Cx} {e:Expr} {es:List Expr} {pos:Pos}
def lfO (o:Option D):Option D:=o.bind λd=>if lfD d then some d else none
def gE (o:Option (List D)):Option D:=o.bind λds=>if lfL ds then some (.lst ds)else none
theorem Ej {K} (h:tFr K U (lfO o) Y H Q):tP K noO U o Y H Q:=by
 obtain⟨E,d,e,k⟩:=h;obtain⟨d',e1,e2⟩:=bind_some e;obtain⟨f,e3⟩:=ay e2;subst e3;refine⟨E,d',e1,λv H' s i=>k v H' [] s ?_ List.nodup_nil λ_ q=>(nomatch q)⟩;rw[dL]at i;exact Is.deep d' v f i
theorem Bj {K} (h:tFr K U (gE o) Y H Q):tPF K noO U o Y H Q:=by
 obtain⟨E,d,e,k⟩:=h;obtain⟨ds,e1,e2⟩:=bind_some e;obtain⟨f,e3⟩:=ay e2;subst e3;refine⟨E,ds,e1,λp xs H' s hp l=>?_⟩;rw[dL]at l;refine k _ _ [p] (s.trans (Same.new hp)) ⟨p,xs,[],rfl,upd_same,rfl,?_⟩ (by simp) λa ha=>?_
 ·exact DeepL.frame (NL.of (Same.new hp)) ds xs [] (λ_ q=>(nomatch q)) (IsL.deep (H:=H') ds xs f l)
 ·rw[mem_singleton.mp ha];exact s.free hp
theorem CZ (h:PPu X e f):PFr X e (λU=>lfO (f U)):=λU=>(h noO U).imp λY H Q q=>Ej q
theorem xR (h:PFu X e f):PFr X e (λU=>gE (f U)):=λU=>(h noO U).imp λY H Q q=>Bj q
def orO {α β:Type} (f g:α->Option β):α->Option β:=λx=>match f x with|some y=>some y|none=>g x
theorem or_some {x:α} {y:β} (h:orO f g x=some y):f x=some y\/g x=some y:=by
 unfold orO at h;split at h
 ·rename_i z hz;rw[hz];exact .inl h
 ·exact .inr h
theorem C0 (h1:PFr X e f) (h2:PFr X e g):PFr X e (orO f g):=λU=>(h1 U).by2 (h2 U) λY H Q ⟨E,d,q,k⟩=>by
 rcases or_some q with q|q
 ·exact .inl ⟨E,d,q,k⟩
 ·exact .inr ⟨E,d,q,k⟩
theorem rp:PFr X e (λ_=>none):=λU=>⟨λ_ _ _ _ _ _ ⟨_,_,q,_⟩=>(by cases q),λ_ _ _ _ _ _ _ _ _ _ _ _ _ _ ⟨_,_,q,_⟩=>(by cases q)⟩
theorem pT:PPu X e (λ_=>none):=λO U=>⟨λ_ _ _ _ _ _ ⟨_,_,q,_⟩=>(by cases q),λ_ _ _ _ _ _ _ _ _ _ _ _ _ _ ⟨_,_,q,_⟩=>(by cases q)⟩
theorem iV:PFu X e (λ_=>none):=λO U=>⟨λ_ _ _ _ _ _ ⟨_,_,q,_⟩=>(by cases q),λ_ _ _ _ _ _ _ _ _ _ _ _ _ _ ⟨_,_,q,_⟩=>(by cases q)⟩
theorem xS (h1:PPu X e f) (h2:PPu X e g):PPu X e (orO f g):=λO U=>(h1 O U).by2 (h2 O U) λY H Q ⟨E,d,q,k⟩=>by
 rcases or_some q with q|q
 ·exact .inl ⟨E,d,q,k⟩
 ·exact .inr ⟨E,d,q,k⟩
theorem uT:rh X [] (λ_=>some []):=λU=>pa_nil.imp λY H Q ⟨E,ds,e,k⟩=>by
 cases e;exact k [] H [] (Same.refl _) ⟨rfl,rfl⟩ List.nodup_nil λ_ q=>(nomatch q)
theorem Deep.have {K} (h:Deep K M H d v A) (q:a∈A):H a≠none:=by
 exact(Deep.lists d v A h a q).ne
theorem frs_cons (h:PFr X e f) (hr:rh X es g) (hs:starEach (e::es) X.env=(false,eval e X.env)::starEach es X.env):rh X (e::es) (aa f g):=
 λU=>(bK (h U).1 (hr U) hs).imp λY H Q ⟨E,ds,q,k⟩=>by
 obtain⟨d,e1,q⟩:=bind_some q
 obtain⟨r,e2,q⟩:=bind_some q
 cases q
 refine⟨E,d,e1,λv H1 A1 s1 i1 n1 f1=>⟨E.grow s1,r,e2,λvs H2 A2 s2 i2 n2 f2=>k (v::vs) H2 (A1++A2) (s1.trans s2) ⟨v,vs,A1,A2,rfl,rfl,Deep.frame (NL.of s2) d v A1 (λa _ o h=>s2 _ _ h) i1,i2⟩ ?_ ?_⟩⟩
 ·refine List.nodup_append.mpr ⟨n1,n2,λa ha b hb z=>?_⟩;subst z;exact i1.have ha (f2 a hb)
 ·intro a ha;rcases mem_append.mp ha with ha|ha
  ·exact f1 a ha
  ·exact s1.free (f2 a ha)
theorem xU (h:rh X es g):PFr X (.List es pos) (λU=>(b9 (g U)).bind λds=>some (.lst ds)):=λU=>PE.pu ((wY (h U)).imp λY H Q ⟨E,d,q,k⟩=>by
 obtain⟨ds,z,q2⟩:=bind_some q;cases q2;obtain⟨e1,e2⟩:=cX z;refine⟨E,ds,e1,λvs H1 A s1 l n f=>⟨by rw[<-l.len];exact Nat.le_of_lt e2,λp hp=>?_⟩⟩;have hpA:p ∉ A:=λz=>by
  exact(DeepL.lists ds vs A l p z).ne (hp)
 refine k _ _ (p::A) (s1.trans (Same.new hp)) ⟨p,vs,A,rfl,upd_same,rfl,DeepL.frame (NL.of (Same.new hp)) ds vs A (λa _ o h=>Same.new hp _ _ h) l⟩ (List.nodup_cons.mpr ⟨hpA,n⟩) λa ha=>?_;rcases mem_cons.mp ha with rfl|ha
 ·exact s1.free hp
 ·exact f a ha) rfl
theorem Ek (h:rh X es g):PFr X (.Tuple es x1 pos) (λU=>(b9 (g U)).bind λds=>some (.tup ds)):=λU=>PE.pu ((sU (h U)).imp λY H Q ⟨E,d,q,k⟩=>by
 obtain⟨ds,z,q2⟩:=bind_some q;cases q2;obtain⟨e1,e2⟩:=cX z;refine⟨E,ds,e1,λvs H1 A s1 l n f=>⟨by rw[<-l.len];exact Nat.le_of_lt e2,λp hp=>?_⟩⟩;exact k _ _ A (s1.trans (Same.new hp)) ⟨p,vs,rfl,.inl upd_same,DeepL.frame (NL.of (Same.new hp)) ds vs A (λa _ o h=>Same.new hp _ _ h) l⟩ n f) rfl
abbrev xFr (K:Frag) (f:Vv->Option D):TE:=λY H Q=>∃z:Vv,tFr K z (f z) Y H Q
theorem tq {K} (h:tFr K U ((aw ks fi g ft fe U).bind λds=>some (.lst ds)) Y H Q):
  qU (tJ K noO U (fi U)) ks (xG K ks g) (xT K ft) (xFr K fe) Y H Q:=by
 obtain⟨E,d,ee,k⟩:=h
 obtain⟨tot,ef,ed⟩:=bind_some ee
 cases ed
 obtain⟨ds,e1,e⟩:=bind_some ef
 obtain⟨e2,hz⟩:=cX e
 refine⟨E,ds,e1,λJ H1 s1 it=>⟨λi m ys H2=>i<=ds.length/\m=ds.length-i/\Same H1 H2/\∃rs rest A,DeepL K H2 H2 rs ys A/\A.Nodup/\(∀a∈A,H a=none)/\kP (gb g ft fe (dI ks U)) (ds.drop i)=some rest/\tot=rs++rest,
  ⟨ds.length,Nat.zero_le _,by simp,Same.refl _,[],tot,[],⟨rfl,rfl⟩,List.nodup_nil,λ_ q=>(nomatch q),by simpa using e2,rfl⟩,?_⟩⟩
 rintro i m ys H2 ⟨hi,rfl,s2,rs,rest,A,il,nd,fr,er,et⟩
 have E2:VE K noO Y H2 U:=E.grow (s1.trans s2)
 have hit:=it i H2 noO s2.msk E2.dom
 have hlen:ys.length<sizeLine:=by
  rw[<-il.len];have:rs.length<=tot.length:=by rw[et,length_append];omega
  omega
 by_cases hlt:i<ds.length
 ·refine .inr ?_;have hd:ds[i]?=some ds[i]:=getElem?_eq_getElem hlt;obtain⟨go,yl⟩:=hit.1 _ hd;refine⟨go,hlen,λx H3 hy=>?_⟩;obtain⟨s3,ix⟩:=yl x H3 hy;rw[List.drop_eq_getElem_cons hlt]at er;obtain⟨o,eo,er⟩:=bind_some (show(gb g ft fe (dI ks U) ds[i]).bind _=some rest from er);obtain⟨rest',er',er⟩:=bind_some er;obtain⟨U1,g1,eo⟩:=bind_some eo;obtain⟨c,c1,eo⟩:=bind_some eo;refine⟨⟨noO,dI ks U,ds[i]⟩,(E2.grow s3).wiped ks,ix,U1,g1,λY4 E4 l4 k4=>⟨⟨l4,λj w hw=>?_⟩,⟨noO,U1⟩,E4,c,c1,λH5 s5=>?_⟩⟩
  ·exact k4 j w (wipe_iff.mp hw).2 hw
  ·have hm:ds.length-(i+1)<ds.length-i:=by omega
   cases c with
   |true=>
    rw[if_pos rfl]at eo;refine AU ?_;obtain⟨y,y1,eo⟩:=bind_some eo;cases eo;refine⟨U1,E4.grow s5,y,y1,λv H6 A' s6 iv nv fv=>⟨_,hm,hlt,rfl,s2.trans (s3.trans (s5.trans s6)),rs++[y],rest',A++A',?_,?_,?_,er',?_⟩⟩
    ·have s36:=s3.trans (s5.trans s6);have il':=DeepL.frame (NL.of s36) rs ys A (λa _ o h=>s36 _ _ h) il;exact DeepL.snoc iv il'
    ·refine List.nodup_append.mpr ⟨nd,nv,λa ha b hb z=>?_⟩;subst z;exact((DeepL.lists rs ys A il a ha).same (s3.trans s5)).ne (fv a hb)
    ·intro a ha;rcases mem_append.mp ha with ha|ha
     ·exact fr a ha
     ·exact(s1.trans (s2.trans (s3.trans s5))).free (fv a ha)
    ·rw[et,<-Option.some.inj er,List.append_assoc];rfl
   |false=>
    rw[if_neg Bool.false_ne_true]at eo;refine AT ?_;cases eo;have s35:=s3.trans s5;refine⟨_,hm,hlt,rfl,s2.trans s35,rs,rest',A,DeepL.frame (NL.of s35) rs ys A (λa _ o h=>s35 _ _ h) il,nd,fr,er',?_⟩;rw[et,<-Option.some.inj er]
 ·have hie:i=ds.length:=by omega
  subst hie;refine .inl ⟨hit.2 (le_refl _),Nat.le_of_lt hlen,λp hp=>?_⟩;rw[List.drop_of_length_le (le_refl _)]at er;cases er;rw[List.append_nil]at et;subst et;have hpA:p ∉ A:=λz=>by
   exact(DeepL.lists tot ys A il p z).ne (hp)
  refine k _ _ (p::A) (s1.trans (s2.trans (Same.new hp))) ⟨p,ys,A,rfl,upd_same,rfl,DeepL.frame (NL.of (Same.new hp)) tot ys A (λa _ o h=>Same.new hp _ _ h) il⟩ (List.nodup_cons.mpr ⟨hpA,nd⟩) λa ha=>?_;rcases mem_cons.mp ha with rfl|ha
  ·exact(s1.trans s2).free hp
  ·exact fr a ha
end
def tEv (K:Frag) (B:Bs) (O:Addr->Bool) (U:Ev) (o:Option (Sl×Ev)):TE:=λY H Q=>EnvOk K B O Y H U/\∃s U',o=some (s,U')/\∀v H' O',Same (msk O H) (msk O' H')->EnvOk K B O' (Y++[some v]) H' (U'++[some s])->Q v H'
def PEv (X:Cx) (e:Expr) (g:Ev->Option (Sl×Ev)):Prop:=∀B O U,PU X e (tEv X.K B O U (g U))
section
variable {X:Cx} {e:Expr}
def fN (f:Vv->Option D):Ev->Option (Sl×Ev):=λU=>(f (vw U)).bind λd=>some ((.deep,d),U)
def kR (f:Vv->Option (List D)):Ev->Option (Sl×Ev):=λU=>(f (shv U)).bind λds=>some ((.top,.lst ds),U)
def tu (f:Vv->Option D):Ev->Option (Sl×Ev):=λU=>(f (shv U)).bind λd=>some ((.sh,d),U)
def xV (f:Vv->Option D):Ev->Option (Sl×Ev):=λU=>(f (vw U)).bind λd=>some ((.sh,d),fM U)
theorem rz (h:PFr X e f):PEv X e (fN f):=λB O U=>(h (vw U)).imp λY H Q ⟨E,s,U',q,k⟩=>by
 obtain⟨d,q1,q2⟩:=bind_some q;cases q2;refine⟨E.view,d,q1,λv H' A s i n f=>?_⟩;have hl:=Deep.lists d v A i;have hO:∀b,(O b||decide (b∈A))=true->Hid (H' b):=λb hb=>by
  rcases(Bool.or_eq_true _ _).mp hb with hb|hb
  ·exact(E.lis b hb).same s
  ·exact hl b (of_decide_eq_true hb)
 have le:Same (msk O H) (msk (λb=>O b||decide (b∈A)) H'):=λb o q=>by
  obtain⟨q1,q2⟩:=aD q;have hb:b ∉ A:=λz=>by rw[f b z]at q2;cases q2
  rw[aK (by simp[q1,hb])];exact s _ _ q2
 refine k v H' _ le (E.more s le (λb hb=>?_) (λb hb=>by simp[hb]) (λb hb=>by simp[hb]) hl n f ?_)
 ·rcases(Bool.or_eq_true _ _).mp hb with hb|hb
  ·exact .inl hb
  ·exact .inr (of_decide_eq_true hb)
 ·refine Deep.frame (λb o hb hn=>?_) d v A (λa _ o h=>h) i;cases z:(O b||decide (b∈A))with
  |false=>rw[aK z];exact hb
  |true=>
   have e:=hO b z;rw[hb]at e;exact(hn e).elim
theorem pU (h:PFu X e f):PEv X e (kR f):=λB O U=>(h O (shv U)).imp λY H Q ⟨E,s,U',q,k⟩=>by
 obtain⟨ds,q1,q2⟩:=bind_some q;cases q2;refine⟨E.viewS,ds,q1,λp xs H' s hp l=>?_⟩;have hO:=(E.grow s).fresh hp;have le:Same (msk O H') (msk (λb=>O b||decide (b=p)) (upd H' p (.lst xs))):=λb o q=>by
  obtain⟨q1,q2⟩:=aD q;have hb:b≠p:=ak q2 hp;rw[aK (by simp[q1,hb]),ag hb];exact q2
 refine k _ _ _ (s.msk.trans le) ((E.grow s).more (A:=[p]) (Same.new hp) le (λb hb=>?_) (λb hb=>by simp[hb]) (λb hb=>by simp[mem_singleton.mp hb]) (λa ha=>?_) (by simp) (λa ha=>by rw[mem_singleton.mp ha];exact hp) ⟨p,ds,xs,rfl,rfl,rfl,upd_same,IsL.mono le ds xs l⟩)
 ·rcases(Bool.or_eq_true _ _).mp hb with hb|hb
  ·exact .inl hb
  ·exact .inr (by simp[of_decide_eq_true hb])
 ·rw[mem_singleton.mp ha];exact .inl ⟨xs,upd_same⟩
theorem EnvOk.moreSh {K} (E:EnvOk K B O Y H U) (h:Is K (msk O H) d v):EnvOk K B O (Y++[some v]) H (U++[some (.sh,d)]):=
 E.more (c:=.sh) (A:=[]) (O':=O) (Same.refl _) (Same.refl _) (λ_ h=>.inl h) (λ_ h=>h) (λ_ h=>(nomatch h)) (λ_ h=>(nomatch h)) List.nodup_nil (λ_ h=>(nomatch h)) ⟨rfl,h⟩
theorem xW (h:PPu X e f):PEv X e (tu f):=λB O U=>(h O (shv U)).imp λY H Q ⟨E,s,U',q,k⟩=>by
 obtain⟨d,q1,q2⟩:=bind_some q;cases q2;exact⟨E.viewS,d,q1,λv H' s i=>k v H' O s.msk ((E.grow s).moreSh i)⟩
theorem C3 (h:PPu X e f):PEv X e (xV f):=λB O U=>(h B.O (vw U)).imp λY H Q ⟨E,s,U',q,k⟩=>by
 obtain⟨d,q1,q2⟩:=bind_some q;cases q2;obtain⟨E',le⟩:=E.frozen;exact⟨E.viewF,d,q1,λv H' s i=>k v H' B.O (le.trans s.msk) ((E'.grow s).moreSh i)⟩
theorem kT (h1:PEv X e f) (h2:PEv X e g):PEv X e (orO f g):=λB O U=>(h1 B O U).by2 (h2 B O U) λY H Q ⟨E,s,U',q,k⟩=>by
 rcases or_some q with q|q
 ·exact .inl ⟨E,s,U',q,k⟩
 ·exact .inr ⟨E,s,U',q,k⟩
end
inductive Out where
 |nx (U:Ev)
 |rt (s:Sl)
 |bk (U:Ev)
 |ct (U:Ev)
def RetOk (K:Frag) (B:Bs) (H':Hp) (s:Sl) (v:V):Prop:=∃ (O':Addr->Bool) (A:List Addr),Same B.H H'/\(∀b,B.O b=true->O' b=true)/\(∀b,O' b=true->Hid (H' b))/\A.Nodup/\(∀a∈A,O' a=true/\B.H a=none)/\OwnC K O' H' s.1 s.2 v A
def post (K:Frag) (B:Bs) (O:Addr->Bool) (H:Hp) (En:Ends):Out->Prop
 |.nx U=>∀Y' H' O',Same (msk O H) (msk O' H')->EnvOk K B O' Y' H' U->En.nx Y' H'
 |.bk U=>∀Y' H' O',Same (msk O H) (msk O' H')->EnvOk K B O' Y' H' U->En.bk Y' H'
 |.ct U=>∀Y' H' O',Same (msk O H) (msk O' H')->EnvOk K B O' Y' H' U->En.ct Y' H'
 |.rt s=>∀v H',RetOk K B H' s v->En.rt v H'
theorem post.mono {K} (s:Same (msk O H) (msk O1 H1)):∀ {o:Out},post K B O H En o->post K B O1 H1 En o
 |.nx _,h=>λY' H' O' s' E=>h Y' H' O' (s.trans s') E
 |.bk _,h=>λY' H' O' s' E=>h Y' H' O' (s.trans s') E
 |.ct _,h=>λY' H' O' s' E=>h Y' H' O' (s.trans s') E
 |.rt _,h=>h
def tS (K:Frag) (B:Bs) (O:Addr->Bool) (U:Ev) (o:Option Out):TS:=λEn Y H=>EnvOk K B O Y H U/\∃out,o=some out/\post K B O H En out
def PR (X:Cx) (st:Stmt) (F:Ev->Option Out):Prop:=∀B O U,PS X st (tS X.K B O U (F U))
def PRs (X:Cx) (st:List Stmt) (F:Ev->Option Out):Prop:=∀B O U,PSs X st (tS X.K B O U (F U))
section
variable {X:Cx} {st:Stmt} {rest:List Stmt} {e tg iter:Expr} {pos:Pos}
theorem pV:PRs X [] (λU=>some (.nx U)):=λB O U=>pss_nil.imp λEn Y H ⟨E,o,q,k⟩=>by
 cases q;exact k Y H O (Same.refl _) E
def ah (F G:Ev->Option Out):Ev->Option Out:=λU=>(F U).bind λo=>match o with|.nx U'=>G U'|o=>some o
theorem l8 (h1:PR X st F) (h2:PRs X rest G):PRs X (st::rest) (ah F G):=λB O U=>
 (jb (h1 B O U) (PSs.ex λz:(Addr->Bool)×Ev=>h2 B z.1 z.2)).imp λEn Y H ⟨E,o,q,k⟩=>by
 obtain⟨o1,q1,q2⟩:=bind_some q;refine⟨E,o1,q1,?_⟩;cases o1 with
 |nx U'=>exactλY' H' O' s' E'=>⟨⟨O',U'⟩,E',o,q2,k.mono s'⟩
 |rt d=>cases q2;exact k
 |bk U'=>cases q2;exact k
 |ct U'=>cases q2;exact k
theorem xX:PRs X rest (λ_=>none):=λB O U=>pss_never.imp λEn Y H ⟨E,o,q,k⟩=>by cases q
theorem xY:PR X st (λ_=>none):=λB O U=>ps_never.imp λEn Y H ⟨E,o,q,k⟩=>by cases q
theorem Bk:PR X (.Pass pos) (λU=>some (.nx U)):=λB O U=>ps_pass.imp λEn Y H ⟨E,o,q,k⟩=>by
 cases q;exact k Y H O (Same.refl _) E
theorem xZ:PR X (.Break pos) (λU=>some (.bk U)):=λB O U=>ps_break.imp λEn Y H ⟨E,o,q,k⟩=>by
 cases q;exact k Y H O (Same.refl _) E
theorem rA:PR X (.Continue pos) (λU=>some (.ct U)):=λB O U=>ps_continue.imp λEn Y H ⟨E,o,q,k⟩=>by
 cases q;exact k Y H O (Same.refl _) E
theorem El:PR X (.Expr (.Constant (.str x) j pos) pos') (λU=>some (.nx U)):=λB O U=>ps_doc.imp λEn Y H ⟨E,o,q,k⟩=>by
 cases q;exact k Y H O (Same.refl _) E
def cw (g:Ev->Option (Sl×Ev)):Ev->Option Out:=λU=>(g U).bind λz=>some (.rt z.1)
theorem EnvOk.ret {K} (E:EnvOk K B O Y H U) {i:Nat} (h:U[i]?=some (some s)) (hv:Y[i]?=some (some v)):RetOk K B H s v:=by
 obtain⟨F,h1,h2,h3,h4⟩:=E.fp;obtain⟨v',e,o⟩:=h1 i s h;rw[hv]at e;cases e;exact⟨O,F i,E.same,E.sub,E.lis,h2 i,h4 i,o⟩
theorem tw (h:PEv X e g):PR X (.Return (some e) pos) (cw g):=λB O U=>(sI (h B O U).1).imp λEn Y H ⟨E,o,q,k⟩=>by
 obtain⟨⟨s,U'⟩,q1,q2⟩:=bind_some q;cases q2;refine⟨E,s,U',q1,λv H' O' s' E'=>k v H' ?_⟩;have len:Y.length=U'.length:=by have:=E'.len;simp at this;exact this
 exact E'.ret (i:=U'.length) (getElem?_last _ _) (by rw[<-len];exact getElem?_last _ _)
theorem Bl:PR X (.Return none pos) (λ_=>some (.rt (.deep,.non))):=λB O U=>ps_retN.imp λEn Y H ⟨E,o,q,k⟩=>by
 cases q;exact k .non H ⟨O,[],E.same,E.sub,E.lis,List.nodup_nil,λ_ h=>(nomatch h),rfl,rfl⟩
def eX (U:Ev) (i:Nat):Option Sl:=match U[i]? with
 |some (some s)=>some s
 |_=>none
theorem dO (h:eX U i=some s):U[i]?=some (some s):=by
 unfold eX at h;split at h
 ·cases h;assumption
 ·cases h
theorem tz (i:Nat) (hN:X.N[i]?=some x) (hv:Vis X.env.scope x) (hd:(x==("__debug__":Str))=false) (hcd:(x==("__classdict__":Str))=false):PR X (.Return (some (.Name x px)) pos) (λU=>(eX U i).bind λs=>some (.rt s)):=λB O U=>(sI (b7 hN hv hd hcd)).imp λEn Y H ⟨E,o,q,k⟩=>by
 obtain⟨s,q1,q2⟩:=bind_some q;cases q2;obtain⟨F,h1,h2,h3,h4⟩:=E.fp;obtain⟨v,e,o⟩:=h1 i s (dO q1);exact⟨v,e,k v H (E.ret (dO q1) e)⟩
def aN (i:Nat) (g:Ev->Option (Sl×Ev)):Ev->Option Out:=λU=>(g U).bind λz=>some (.nx (z.2.set i (some z.1)))
theorem uU {K} (h:tS K B O U (aN i g U) En Y H):wO (tEv K B O U (g U)) (qM i) En Y H:=by
 obtain⟨E,o,q,k⟩:=h;obtain⟨⟨s,U'⟩,q1,q2⟩:=bind_some q;cases q2;exact⟨E,s,U',q1,λv H' O' s' E'=>k _ H' O' s' (E'.put i)⟩
theorem x0 (hN:X.N.Nodup) (hi:X.N[i]?=some x) (hx:Loc X.env.scope x) (h:PEv X e g) (hf:X.fn x=true\/X.env.scope.names.lookup x=some .local) (hs:swapsWith e (some (.Name x pos')) pos.line X.env=pure false\/(swapsWith e (some (.Name x pos')) pos.line X.env=pure true/\X.env.scope.names.lookup x=some .local)):PR X (.Assign [.Name x pos'] e pos) (aN i g):=λB O U=>by
 rcases hs with hs|⟨hs,hl⟩
 ·exact(wP hN hi hx (h B O U).1 hs hf).imp λEn Y H h=>uU h
 ·exact((h B O U).2 i x pos' pos hN hi hl hs).imp λEn Y H h=>uU h
def mQ (f:Vv->Option D):Ev->Option Out:=λU=>(f (vw U)).bind λ_=>some (.nx U)
theorem Bm (h:PP X e f) (hs:swapsWith e none pos.line X.env=pure false):PR X (.Expr e pos) (mQ f):=λB O U=>(ib (h noO (vw U)) hs).imp λEn Y H ⟨E,o,q,k⟩=>by
 obtain⟨d,q1,q2⟩:=bind_some q;cases q2;exact⟨E.view,d,q1,λv H' s' iv=>k Y H' O s'.msk (E.grow s')⟩
def ifS (fc:Vv->Option Bool) (F G:Ev->Option Out):Ev->Option Out:=λU=>(fc (vw U)).bind λc=>if c=true then F U else G U
theorem HK (hc:PQ X c fc) (ha:PRs X a F) (hb:PRs X b G):PR X (.If c a b pos) (ifS fc F G):=λB O U=>(CO (hc noO (vw U)) (ha B O U) (hb B O U)).imp λEn Y H ⟨E,o,q,k⟩=>by
 obtain⟨c,q1,q2⟩:=bind_some q;refine⟨E.view,c,q1,λH' s'=>?_⟩;cases c with
 |true=>rw[if_pos rfl]at q2;exact AU ⟨E.grow s',o,q2,k.mono s'.msk⟩
 |false=>rw[if_neg Bool.false_ne_true]at q2;exact AT ⟨E.grow s',o,q2,k.mono s'.msk⟩
end
def tGE (K:Frag) (B:Bs) (O:Addr->Bool) (U:Ev) (d:D) (o:Option Ev):TG:=λv Y H Q=>EnvOk K B O Y H U/\Is K (msk O H) d v/\∃U',o=some U'/\∀Y',EnvOk K B O Y' H U'->Q Y' H
def PGE (X:Cx) (tg:Expr) (g:D->Ev->Option Ev):Prop:=∀B O U d,PG X tg (tGE X.K B O U d (g d U))
def Kw (K:Frag) (B:Bs) (O:Addr->Bool) (U:Ev) (ds:List D) (o:Option Ev):TGs:=λvs Y H Q=>EnvOk K B O Y H U/\IsL K (msk O H) ds vs/\∃U',o=some U'/\∀Y',EnvOk K B O Y' H U'->Q Y' H
def we (X:Cx) (ts:List Expr) (g:List D->Ev->Option Ev):Prop:=∀B O U ds,PGs X ts (Kw X.K B O U ds (g ds U))
def eNm (i:Nat):D->Ev->Option Ev:=λd U=>some (U.set i (some (.sh,d)))
def rB:List D->Ev->Option Ev:=λds U=>match ds with|[]=>some U|_=>none
def gd (g:D->Ev->Option Ev) (gs:List D->Ev->Option Ev):List D->Ev->Option Ev:=λds U=>match ds with|d::r=>(g d U).bind λU1=>gs r U1|_=>none
def eTp (n:Nat) (gs:List D->Ev->Option Ev):D->Ev->Option Ev:=λd U=>match d with|.tup ds=>if ds.length=n then gs ds U else none|_=>none
section
variable {X:Cx} {e tg iter:Expr} {pos:Pos}
theorem Bn (hN:X.N.Nodup) (hi:X.N[i]?=some x) (hx:Loc X.env.scope x) (hf:X.fn x=true\/X.env.scope.names.lookup x=some .local):PGE X (.Name x pos) (eNm i):=
 λB O U d=>(uD hN hi hx hf).imp λv Y H Q ⟨E,iv,U',e,k⟩=>by
 cases e
 exact k _ (E.setSh iv)
theorem Bo:we X [] rB:=λB O U ds=>pgs_nil.imp λvs Y H Q ⟨E,il,U',e,k⟩=>by
 cases ds with
 |nil=>cases e;exact⟨il,k Y E⟩
 |cons _ _=>cases e
theorem gse_cons (h1:PGE X e g) (h2:we X ts gs) (hs:(assignEach (e::ts) X.env).map (·.2)=assign e X.env::(assignEach ts X.env).map (·.2)):we X (e::ts) (gd g gs):=λB O U ds=>by
 cases ds with
 |nil=>exactλpins s Y H vs us Q I r ⟨_,_,U',e,_⟩=>by cases e
 |cons d r=>
  refine(qN (h1 B O U d) (PGs.ex λz:Ev=>h2 B O z r) hs).imp λvs Y H Q ⟨E,⟨x,xr,z,ix,il⟩,U',e,k⟩=>?_;obtain⟨U1,e1,e2⟩:=bind_some (show(g d U).bind _=some U' from e);exact⟨x,xr,z,E,ix,U1,e1,λY1 E1=>⟨U1,E1,il,U',e2,λY2 E2=>k Y2 E2⟩⟩
theorem Em (hc:X.calm=true) (h:we X ts gs) (hn:(assignEach ts X.env).length=n) (hst:(assignEach ts X.env).findIdx? (·.1)=none):PGE X (.Tuple ts k pos) (eTp n gs):=λB O U d=>by
 refine(wM hc (PGs.ex λz:List D=>h B O U z) hn hst).imp λv Y H Q ⟨E,iv,U',e,k⟩=>?_;cases d with
 |tup ds=>
  obtain⟨a,xs,rfl,t,il⟩:=iv;have e':(if ds.length=n then gs ds U else none)=some U':=e;split at e'
  ·exact⟨a,xs,rfl,msk_le.seqT t,by rw[<-il.len];assumption,ds,E,il,U',e',k⟩
  ·cases e'
 |_=>cases e
def mR (step:D->Ev->Option Out):List D->Ev->Option Out
 |[],U=>some (.nx U)
 |d::ds,U=>(step d U).bind λo=>match o with
  |.nx U'=>mR step ds U'
  |.ct U'=>mR step ds U'
  |.bk U'=>some (.nx U')
  |.rt v=>some (.rt v)
def lu (g:D->Ev->Option Ev) (F:Ev->Option Out):D->Ev->Option Out:=λd U=>(g d U).bind F
def gG (fi:Vv->Option (List D)) (g:D->Ev->Option Ev) (F:Ev->Option Out):Ev->Option Out:=λU=>(fi (shv U)).bind λds=>mR (lu g F) ds U
def x4 (fi:Vv->Option (List D)) (g:D->Ev->Option Ev) (F:Ev->Option Out):Ev->Option Out:=λU=>(fi (vw U)).bind λds=>mR (lu g F) ds (fM U)
theorem pW {K} (E:EnvOk K B O Y H U) (V:VE K O Y H Uv) (q:(o.bind λds=>mR (lu g F) ds U)=some out) (k:post K B O H En out):
  GF (tJ K O Uv o) (λv Y H Q=>∃z:(Addr->Bool)×Ev×D,tGE K B z.1 z.2.1 z.2.2 (g z.2.2 z.2.1) v Y H Q) (λEn Y H=>∃z:(Addr->Bool)×Ev,tS K B z.1 z.2 (F z.2) En Y H) En Y H:=by
 obtain⟨ds,q1,q⟩:=bind_some q
 refine⟨V,ds,q1,λJ H1 s1 it=>⟨λi m Y' H'=>i<=ds.length/\m=ds.length-i/\∃O' U',Same (msk O H1) (msk O' H')/\EnvOk K B O' Y' H' U'/\mR (lu g F) (ds.drop i) U'=some out,
  ⟨ds.length,Nat.zero_le _,by simp,O,U,Same.refl _,E.grow s1,by simpa using q⟩,?_⟩⟩
 rintro i m Y2 H2 ⟨hi,rfl,O2,U2,s2,E2,e2⟩
 have hit:=it i H2 O2 s2 E2.dom
 by_cases hlt:i<ds.length
 ·refine .inr ?_;have hd:ds[i]?=some ds[i]:=getElem?_eq_getElem hlt;obtain⟨go,yl⟩:=hit.1 _ hd;refine⟨go,λY' H'=>i+1<=ds.length/\∃O' U',Same (msk O H1) (msk O' H')/\EnvOk K B O' Y' H' U'/\mR (lu g F) (ds.drop (i+1)) U'=some out,λY' H' ⟨a,b⟩=>⟨ds.length-(i+1),by omega,a,rfl,b⟩,λx H3 hy=>?_⟩;obtain⟨s3,ix⟩:=yl x H3 hy;rw[List.drop_eq_getElem_cons hlt]at e2;obtain⟨o1,e3,e4⟩:=bind_some (show((g ds[i] U2).bind F).bind _=some out from e2);obtain⟨U3,g3,f3⟩:=bind_some e3;refine⟨⟨O2,U2,ds[i]⟩,E2.grow s3,ix,U3,g3,λY4 E4=>⟨⟨O2,U3⟩,E4,o1,f3,?_⟩⟩;have s4:Same (msk O H1) (msk O2 H3):=s2.trans s3.msk;cases o1 with
  |nx U5=>exactλY5 H5 O5 s5 E5=>⟨hlt,O5,U5,s4.trans s5,E5,e4⟩
  |ct U5=>exactλY5 H5 O5 s5 E5=>⟨hlt,O5,U5,s4.trans s5,E5,e4⟩
  |bk U5=>
   cases e4;exactλY5 H5 O5 s5 E5=>k Y5 H5 O5 (s1.msk.trans (s4.trans s5)) E5
  |rt d=>
   cases e4;exact k
 ·have hie:i=ds.length:=by omega
  subst hie;rw[List.drop_of_length_le (le_refl _)]at e2;cases e2;exact .inl ⟨hit.2 (le_refl _),k Y2 H2 O2 (s1.msk.trans s2) E2⟩
theorem Eo (hp:PassesOwn (model X.prog X.w) X.A X.env X.xe) (hc:X.calm=true) (hi:PJ X tg iter fi) (hg:PGE X tg g) (hb:PRs X body F) (hs:∀x,foldedSetIterable iter X.env x=pure x):PR X (.For tg iter body [] pos) (gG fi g F):=λB O U=>
 (sL hp hc (hi O (shv U)) (PG.ex λz:(Addr->Bool)×Ev×D=>hg B z.1 z.2.1 z.2.2) (PSs.ex λz:(Addr->Bool)×Ev=>hb B z.1 z.2) hs).imp λEn Y H ⟨E,out,q,k⟩=>pW E E.viewS q k
theorem Bp (hp:PassesOwn (model X.prog X.w) X.A X.env X.xe) (hc:X.calm=true) (hi:PJ X tg iter fi) (hg:PGE X tg g) (hb:PRs X body F) (hs:∀x,foldedSetIterable iter X.env x=pure x):PR X (.For tg iter body [] pos) (x4 fi g F):=λB O U=>
 (sL hp hc (hi B.O (vw U)) (PG.ex λz:(Addr->Bool)×Ev×D=>hg B z.1 z.2.1 z.2.2) (PSs.ex λz:(Addr->Bool)×Ev=>hb B z.1 z.2) hs).imp λEn Y H ⟨E,out,q,k⟩=>pW E.frozen.1 E.viewF q (k.mono E.frozen.2)
theorem oS {st} (h1:PR X st F) (h2:PR X st G):PR X st (orO F G):=λB O U=>(h1 B O U).by2 (h2 B O U) λEn Y H ⟨E,out,q,k⟩=>by
 rcases or_some q with q|q
 ·exact .inl ⟨E,out,q,k⟩
 ·exact .inr ⟨E,out,q,k⟩
end
section
variable {K:Frag} {B:Bs} {O:Addr->Bool} {Y:St} {H:Hp} {U:Ev}
theorem EnvOk.ownAt (E:EnvOk K B O Y H U) {i:Nat} (h:U[i]?=some (some (c,.lst ds))) (hc:c≠.sh):
  ∃a xs,Y[i]?=some (some (.ref a))/\H a=some (.lst xs)/\ds.length=xs.length/\O a=true/\B.H a=none:=by
 obtain⟨F,h1,h2,h3,h4⟩:=E.fp
 obtain⟨v,e,o⟩:=h1 i _ h
 cases c with
 |sh=>exact absurd rfl hc
 |top=>
  obtain⟨a,ds',xs,z1,z2,z3,z4,l⟩:=o;cases z1;refine⟨a,xs,by rw[e,z2],z4,l.len,?_⟩;exact h4 i a (by rw[z3];exact mem_cons_self)
 |deep=>
  obtain⟨a,xs,A',z1,z2,z3,l⟩:=o;refine⟨a,xs,by rw[e,z1],z2,DeepL.len l,?_⟩;exact h4 i a (by rw[z3];exact mem_cons_self)
def lsW (f:{α:Type}->List α->α->List α):Prop:=∀ {K:Frag} {M H:Hp} {ds:List D} {xs:List V} {A A1:List Addr} {d:D} {v:V},DeepL K M H ds xs A->Deep K M H d v A1->(A++A1).Nodup->
 ∃A',DeepL K M H (f ds d) (f xs v) A'/\A'.Nodup/\∀b∈A',b∈A\/b∈A1
def lsI (f:{α:Type}->List α->α->List α):Prop:=∀ {K:Frag} {M:Hp} {ds:List D} {xs:List V} {d:D} {v:V},IsL K M ds xs->Is K M d v->IsL K M (f ds d) (f xs v)
def newCat (c:Cat) (s:Sl):Cat:=if c=.deep/\s.1=.deep then .deep else .top
theorem EnvOk.change (E:EnvOk K B O (Y++[some v]) H (U++[some s])) (f:{α:Type}->List α->α->List α) (hw:lsW f) (hi:lsI f) {i:Nat} (h:U[i]?=some (some (c,.lst ds))) (hc:c≠.sh):
  ∃a xs,Y[i]?=some (some (.ref a))/\H a=some (.lst xs)/\ds.length=xs.length/\∃O',EnvOk K B O' Y (upd H a (.lst (f xs v))) (U.set i (some (newCat c s,.lst (f ds s.2))))/\Same (msk O H) (msk O' (upd H a (.lst (f xs v)))):=by
 obtain⟨F,h1,h2,h3,h4⟩:=E.fp
 have len:Y.length=U.length:=by have:=E.len;simp at this;exact this
 have hil:i<U.length:=(List.getElem?_eq_some_iff.mp h).1
 have hin:i≠U.length:=by omega
 obtain⟨v',e1,o1⟩:=h1 U.length s (getElem?_last _ _)
 rw[<-len,getElem?_last]at e1
 cases e1
 obtain⟨v0,e0,o0⟩:=h1 i _ (by rw[getElem?_append_left hil];exact h)
 have e0':Y[i]?=some (some v0):=dZ (by omega) e0
 -- the list's place
 have at_:∃a xs A',v0=.ref a/\H a=some (.lst xs)/\F i=a::A'/\ds.length=xs.length/\(c=.deep->DeepL K (msk O H) H ds xs A')/\(∀O',Same (msk O H) (msk O' H)->(∀b∈A',O' b=false)->IsL K (msk O' H) ds xs):=by
  cases c with
  |sh=>exact absurd rfl hc
  |top=>
   obtain⟨a,ds',xs,z1,z2,z3,z4,l⟩:=o0;cases z1;exact⟨a,xs,[],z2,z4,z3,l.len,(λz=>by cases z),λO' le _=>IsL.mono le _ _ l⟩
  |deep=>
   obtain⟨a,xs,A',z1,z2,z3,l⟩:=o0;exact⟨a,xs,A',z1,z2,z3,DeepL.len l,λ_=>l,λO' le hA=>DeepL.is (NL.of le) ds xs A' (λb hb o q=>by rw[aK (hA b hb)];exact q) l⟩
 obtain⟨a,xs,A',rfl,ha,hF,hl,hdeep,htop⟩:=at_
 have haF:a∈F i:=by rw[hF];exact mem_cons_self
 obtain⟨haO,haB⟩:=h4 i a haF
 have nd:=h2 i
 rw[hF]at nd
 have haA':a ∉ A':=(List.nodup_cons.mp nd).1
 have hA'F:∀b∈A',b∈F i:=λb hb=>by rw[hF];exact mem_cons_of_mem _ hb
 have han:a ∉ F U.length:=λz=>hin (h3 _ _ a haF z)
 refine⟨a,xs,e0',ha,hl,?_⟩
 -- the rest of the frame
 have oth:∀ {O':Addr->Bool} {H':Hp},Same (msk O H) (msk O' H')->(∀b,b≠a->H' b=H b)->∀j x,j≠i->U[j]?=some (some x)->∃w,Y[j]?=some (some w)/\OwnC K O' H' x.1 x.2 w (F j):=λ{O' H'} le hh j x hj hx=>by
  have hjl:=(List.getElem?_eq_some_iff.mp hx).1;obtain⟨w,e2,o2⟩:=h1 j x (by rw[getElem?_append_left hjl];exact hx);refine⟨w,dZ (by omega) e2,o2.frame le λb hb o q=>?_⟩;have hba:b≠a:=λz=>hj (h3 j i a (z▸hb) haF);rw[hh b hba];exact q
 by_cases hd:c=.deep/\s.1=.deep
 ·obtain⟨rfl,hs⟩:=hd;obtain⟨sc,sd⟩:=s;cases(show sc=.deep from hs);have o1':Deep K (msk O H) H sd v (F U.length):=o1;have ndT:(A'++F U.length).Nodup:=List.nodup_append.mpr ⟨(List.nodup_cons.mp nd).2,h2 _,λx hx y hy z=>by
   subst z;exact hin (h3 i U.length x (hA'F x hx) hy)⟩
  obtain⟨A2,l2,n2,sub2⟩:=hw (hdeep rfl) o1' ndT;have haA2:a ∉ A2:=λz=>by
   rcases sub2 a z with z|z
   ·exact haA' z
   ·exact han z
  have me:msk O (upd H a (.lst (f xs v)))=msk O H:=fK haO;have le:Same (msk O H) (msk O (upd H a (.lst (f xs v)))):=by rw[me];exact Same.refl _
  have nc:newCat Cat.deep (Cat.deep,sd)=.deep:=by unfold newCat;rw[if_pos ⟨rfl,rfl⟩]
  rw[nc];refine⟨O,⟨λb o z=>?_,E.bdom,E.sub,λb hb=>?_,by simpa using len,λj=>if j=i then a::A2 else if j=U.length then[]else F j,λj x q=>?_,λj=>?_,λj k b hj hk=>?_,λj b hj=>?_⟩,le⟩
  ·rw[ag (ak z haB)];exact E.same b o z
  ·by_cases hba:b=a
   ·subst hba;exact .inl ⟨_,upd_same⟩
   ·rw[ag hba];exact E.lis b hb
  ·rcases get_set_some q with⟨e,q'⟩|⟨e,q'⟩
   ·cases q';subst e;refine⟨.ref a,e0',?_⟩;simp only[if_true];refine⟨a,f xs v,A2,rfl,upd_same,rfl,DeepL.frame (NL.of le) _ _ A2 (λb hb o q=>?_) l2⟩;have hba:b≠a:=λz=>haA2 (by rw[<-z];exact hb);rw[ag hba];exact q
   ·have hj:j≠U.length:=by have:=(List.getElem?_eq_some_iff.mp q').1;omega
    obtain⟨w,e2,o2⟩:=oth le (λb hb=>ag hb) j x e q';exact⟨w,e2,by simp only[if_neg e,if_neg hj];exact o2⟩
  ·dsimp only;split
   ·exact List.nodup_cons.mpr ⟨haA2,n2⟩
   ·split
    ·exact List.nodup_nil
    ·exact h2 _
  ·have key:∀j b,b∈(if j=i then a::A2 else if j=U.length then[]else F j)->(j=i/\(b∈F i\/b∈F U.length))\/(j≠i/\j≠U.length/\b∈F j):=λj b hb=>by
    by_cases e:j=i
    ·rw[if_pos e]at hb;refine .inl ⟨e,?_⟩;rcases mem_cons.mp hb with rfl|hb
     ·exact .inl haF
     ·rcases sub2 b hb with z|z
      ·exact .inl (hA'F b z)
      ·exact .inr z
    ·rw[if_neg e]at hb;by_cases e2:j=U.length
     ·rw[if_pos e2]at hb;cases hb
     ·rw[if_neg e2]at hb;exact .inr ⟨e,e2,hb⟩
   rcases key j b hj with⟨p1,p2⟩|⟨p1,p2,p3⟩<;>rcases key k b hk with⟨q1,q2⟩|⟨q1,q2,q3⟩
   ·omega
   ·rcases p2 with p2|p2
    ·exact absurd (h3 _ _ b p2 q3) (by omega)
    ·exact absurd (h3 _ _ b p2 q3) (by omega)
   ·rcases q2 with q2|q2
    ·exact absurd (h3 _ _ b p3 q2) (by omega)
    ·exact absurd (h3 _ _ b p3 q2) (by omega)
   ·exact h3 _ _ b p3 q3
  ·dsimp only at hj;split at hj
   ·rcases mem_cons.mp hj with rfl|hj
    ·exact⟨haO,haB⟩
    ·rcases sub2 b hj with z|z
     ·exact h4 i b (hA'F b z)
     ·exact h4 _ b z
   ·split at hj
    ·cases hj
    ·exact h4 _ b hj
 ·have nc:newCat c s=.top:=by unfold newCat;rw[if_neg hd]
  rw[nc];let O':Addr->Bool:=λb=>O b&&!decide (b∈A')&&!decide (b∈F U.length);have hO'a:O' a=true:=by simp[O',haO,haA',han]
  have hsub:∀b,O' b=true->O b=true:=λb hb=>by simp[O']at hb;exact hb.1.1
  have hno:∀b∈A',O' b=false:=λb hb=>by simp[O',hb]
  have hno2:∀b∈F U.length,O' b=false:=λb hb=>by simp[O',hb]
  have le0:Same (msk O H) (msk O' H):=λb o q=>by
   obtain⟨q1,q2⟩:=aD q;rw[aK (by simp[O',q1])];exact q2
  have me:msk O' (upd H a (.lst (f xs v)))=msk O' H:=fK hO'a;have le:Same (msk O H) (msk O' (upd H a (.lst (f xs v)))):=by rw[me];exact le0
  have l3:IsL K (msk O' (upd H a (.lst (f xs v)))) (f ds s.2) (f xs v):=by
   rw[me];exact hi (htop O' le0 hno) (o1.is le0 hno2)
  refine⟨O',⟨λb o z=>?_,E.bdom,λb hb=>?_,λb hb=>?_,by simpa using len,λj=>if j=i then[a]else if j=U.length then[]else F j,λj x q=>?_,λj=>?_,λj k b hj hk=>?_,λj b hj=>?_⟩,le⟩
  ·rw[ag (ak z haB)];exact E.same b o z
  ·have h5:b ∉ A':=λz=>E.bdom b hb (h4 i b (hA'F b z)).2;have h6:b ∉ F U.length:=λz=>E.bdom b hb (h4 _ b z).2;simp[O',E.sub b hb,h5,h6]
  ·by_cases hba:b=a
   ·subst hba;exact .inl ⟨_,upd_same⟩
   ·rw[ag hba];exact E.lis b (hsub b hb)
  ·rcases get_set_some q with⟨e,q'⟩|⟨e,q'⟩
   ·cases q';subst e;refine⟨.ref a,e0',?_⟩;simp only[if_true];exact⟨a,f ds s.2,f xs v,rfl,rfl,rfl,upd_same,l3⟩
   ·have hj:j≠U.length:=by have:=(List.getElem?_eq_some_iff.mp q').1;omega
    obtain⟨w,e2,o2⟩:=oth le (λb hb=>ag hb) j x e q';exact⟨w,e2,by simp only[if_neg e,if_neg hj];exact o2⟩
  ·dsimp only;split
   ·simp
   ·split
    ·exact List.nodup_nil
    ·exact h2 _
  ·dsimp only at hj hk;split at hj
   ·split at hk
    ·omega
    ·split at hk
     ·cases hk
     ·rw[mem_singleton.mp hj]at hk;exact absurd (h3 _ _ a haF hk) (by omega)
   ·split at hj
    ·cases hj
    ·split at hk
     ·rw[mem_singleton.mp hk]at hj;exact absurd (h3 _ _ a hj haF) (by omega)
     ·split at hk
      ·cases hk
      ·exact h3 _ _ b hj hk
  ·dsimp only at hj;split at hj
   ·rw[mem_singleton.mp hj];exact⟨hO'a,haB⟩
   ·rename_i hji;split at hj
    ·cases hj
    ·rename_i hjn;refine⟨?_,(h4 _ b hj).2⟩;have h5:b ∉ A':=λz=>hji (h3 _ _ b hj (hA'F b z));have h6:b ∉ F U.length:=λz=>hjn (h3 _ _ b hj z);simp[O',(h4 _ b hj).1,h5,h6]
end
def HL (R:Vv->Option D) (g:D->Ev->Option Ev):Ev->Option Out:=λU=>(R (shv U)).bind λd=>(g d U).bind λU'=>some (.nx U')
def HM (R:Vv->Option D) (g:D->Ev->Option Ev):Ev->Option Out:=λU=>(R (vw U)).bind λd=>(g d (fM U)).bind λU'=>some (.nx U')
section
variable {X:Cx} {e tg:Expr} {pos:Pos}
theorem Bq (h:PP X e R) (hg:PGE X tg g) (hs:swapsWithSole [tg] e pos.line X.env=pure false) (hw:swappedStores [tg] e X.env=pure none) (h1:(assignEach [tg] X.env).map (·.2)=[assign tg X.env]):PR X (.Assign [tg] e pos) (HL R g):=λB O U=>
 (pG (h O (shv U)) (PG.ex λz:D=>hg B O U z) hs hw h1).imp λEn Y H ⟨E,o,q,k⟩=>by
 obtain⟨d,q1,q2⟩:=bind_some q;obtain⟨U',q3,q4⟩:=bind_some q2;cases q4;exact⟨E.viewS,d,q1,λv H' s i=>⟨d,E.grow s,i,U',q3,λY' E'=>k Y' H' O s.msk E'⟩⟩
theorem Br (h:PP X e R) (hg:PGE X tg g) (hs:swapsWithSole [tg] e pos.line X.env=pure false) (hw:swappedStores [tg] e X.env=pure none) (h1:(assignEach [tg] X.env).map (·.2)=[assign tg X.env]):PR X (.Assign [tg] e pos) (HM R g):=λB O U=>
 (pG (h B.O (vw U)) (PG.ex λz:D=>hg B B.O (fM U) z) hs hw h1).imp λEn Y H ⟨E,o,q,k⟩=>by
 obtain⟨d,q1,q2⟩:=bind_some q;obtain⟨U',q3,q4⟩:=bind_some q2;cases q4;obtain⟨E',le⟩:=E.frozen;exact⟨E.viewF,d,q1,λv H' s i=>⟨d,E'.grow s,i,U',q3,λY' E2=>k Y' H' B.O (le.trans s.msk) E2⟩⟩
end
def gH {α:Type} (l:List α) (x:α):List α:=l++[x]
theorem tB:lsW gH:=λh q nd=>⟨_,DeepL.snoc q h,nd,λb hb=>mem_append.mp hb⟩
theorem tD:lsI gH:=λh q=>h.app ⟨_,[],rfl,q,rfl⟩
theorem DeepL.setAt {K} (h:Deep K M H d v A1):∀ {ds:List D} {xs:List V} {A:List Addr} (j:Nat),DeepL K M H ds xs A->(A++A1).Nodup->
  ∃A',DeepL K M H (ds.set j d) (xs.set j v) A'/\A'.Nodup/\∀b∈A',b∈A\/b∈A1
 |[],_,_,_,l,nd=>by
  obtain⟨rfl,rfl⟩:=l;exact⟨[],⟨rfl,rfl⟩,List.nodup_nil,λ_ hb=>(nomatch hb)⟩
 |c::ds,_,_,0,⟨x,r,A0,A2,e,z,q,l⟩,nd=>by
  subst e;subst z;rw[List.append_assoc]at nd;obtain⟨n1,n2,n3⟩:=List.nodup_append.mp nd;obtain⟨m1,m2,m3⟩:=List.nodup_append.mp n2;refine⟨A1++A2,⟨v,r,A1,A2,rfl,rfl,h,l⟩,List.nodup_append.mpr ⟨m2,m1,λa ha b hb z=>m3 b hb a ha z.symm⟩,λb hb=>?_⟩;rcases mem_append.mp hb with hb|hb
  ·exact .inr hb
  ·exact .inl (mem_append_right _ hb)
 |c::ds,_,_,j+1,⟨x,r,A0,A2,e,z,q,l⟩,nd=>by
  subst e;subst z;rw[List.append_assoc]at nd;obtain⟨n1,n2,n3⟩:=List.nodup_append.mp nd;obtain⟨A',l',nd',sub⟩:=DeepL.setAt h j l n2;refine⟨A0++A',⟨x,r.set j v,A0,A',rfl,rfl,q,l'⟩,List.nodup_append.mpr ⟨n1,nd',λa ha b hb z=>?_⟩,λb hb=>?_⟩
  ·rcases sub b hb with hb|hb
   ·exact n3 a ha b (mem_append_left _ hb) z
   ·exact n3 a ha b (mem_append_right _ hb) z
  ·rcases mem_append.mp hb with hb|hb
   ·exact .inl (mem_append_left _ hb)
   ·rcases sub b hb with hb|hb
    ·exact .inl (mem_append_right _ hb)
    ·exact .inr hb
def Ep (j:Nat) {α:Type} (l:List α) (x:α):List α:=l.set j x
theorem HN (j:Nat):lsW (Ep j):=λh q nd=>DeepL.setAt q j h nd
theorem i_set (j:Nat):lsI (Ep j):=λh q=>.of (mJ q j h.paired)
section
variable {X:Cx} {e:Expr} {pos:Pos}
def em (U:Ev) (i:Nat):Option (Cat×List D):=(eX U i).bind λs=>match s with
 |(.sh,_)=>none
 |(c,.lst ds)=>some (c,ds)
 |_=>none
theorem eY (h:em U i=some (c,ds)):U[i]?=some (some (c,.lst ds))/\c≠.sh:=by
 obtain⟨⟨c',d⟩,e,q⟩:=bind_some h;have e':=dO e;cases c' with
 |sh=>cases q
 |top=>cases d<;>first|(cases q;exact⟨e',by intro z;cases z⟩)|cases q
 |deep=>cases d<;>first|(cases q;exact⟨e',by intro z;cases z⟩)|cases q
def iB (i:Nat) (g:Ev->Option (Sl×Ev)):Ev->Option Out:=λU=>(em U i).bind λ_=>(g U).bind λz=>(em z.2 i).bind λw=>if w.2.length+1<big then some (.nx (z.2.set i (some (newCat w.1 z.1,.lst (w.2++[z.1.2])))))else none
theorem im (i:Nat) (h:PEv X e g) (hN:X.N[i]?=some x) (hv:Vis X.env.scope x) (hd:(x==("__debug__":Str))=false) (hcd:(x==("__classdict__":Str))=false) (hst:starEach [e] X.env=(false,eval e X.env)::starEach [] X.env) (hline:(apos.endLine==cpos.line)=true):PR X (.Expr (.Call (.Attribute (.Name x px) "append" apos) [e] [] cpos) pos) (iB i g):=λB O U=>
 (ib (oI PySem.F.plainAttrs_list PySem.F.slot_list_append PySem.F.type_list_append jP (b7 hN hv hd hcd) (bK (h B O U).1 pa_nil hst) rfl (by rw[hst];rfl) hline hst rfl)).imp λEn Y H ⟨E,o,q,k⟩=>by
 obtain⟨⟨c0,ds0⟩,q1,q⟩:=bind_some q;obtain⟨⟨s,U'⟩,q2,q⟩:=bind_some q;obtain⟨⟨c,ds⟩,q3,q⟩:=bind_some q;obtain⟨hz,q⟩:=ay q;subst q;obtain⟨h0,hc0⟩:=eY q1;obtain⟨h1,hc1⟩:=eY q3;obtain⟨a,xs0,e1,r3,_⟩:=E.ownAt h0 hc0;refine⟨.ref a,e1,.inl ⟨rfl,_,SqL.of r3⟩,E,s,U',q2,λv H1 O1 s1 E1=>?_⟩;obtain⟨a',xs,e2,r4,hl,O2,E2,s2⟩:=E1.change gH tB tD h1 hc1;rw[e1]at e2;cases e2;exact⟨a,xs,v,rfl,rfl,r4,by rw[gz,<-hl];exact Nat.lt_of_succ_lt hz,k Y _ O2 (s1.trans s2) E2⟩
def gI (i:Nat) (fk:Vv->Option D) (g:Ev->Option (Sl×Ev)):Ev->Option Out:=λU=>(g U).bind λz=>(em z.2 i).bind λw=>(fk (vw z.2)).bind λy=>match y with
 |.int k=>(ixN w.2.length k).bind λj=>some (.nx (z.2.set i (some (newCat w.1 z.1,.lst (w.2.set j z.1.2)))))
 |_=>none
theorem Er (i:Nat) (h:PEv X e g) (hk:PP X ik fk) (hN:X.N[i]?=some x) (hv:Vis X.env.scope x) (hd:(x==("__debug__":Str))=false) (hcd:(x==("__classdict__":Str))=false) (ha:∀v,assign (.Subscript (.Name x px) ik spos) X.env v=(do
   let ov<-holding [v] (eval (.Name x px) X.env)
   let iv<-holding [v,ov] (eval ik X.env)
   standAt spos
   holding [v,ov,iv] (setItem ov iv v)
   release [v,ov,iv] [])) (hs:swapsWithSole [.Subscript (.Name x px) ik spos] e pos.line X.env=pure false) (hw:swappedStores [.Subscript (.Name x px) ik spos] e X.env=pure none) (h1:(assignEach [.Subscript (.Name x px) ik spos] X.env).map (·.2)=[assign (.Subscript (.Name x px) ik spos) X.env]):PR X (.Assign [.Subscript (.Name x px) ik spos] e pos) (gI i fk g):=λB O U=>
 (pG (h B O U).1 (wN (b7 hN hv hd hcd) (PE.ex λz:Vv=>hk noO z) xg ha) hs hw h1).imp λEn Y H ⟨E,o,q,k⟩=>by
 obtain⟨⟨s,U'⟩,q1,q⟩:=bind_some q
 obtain⟨⟨c,ds⟩,q2,q⟩:=bind_some q
 obtain⟨y,q3,q⟩:=bind_some q
 obtain⟨h0,hc0⟩:=eY q2
 refine⟨E,s,U',q1,λv H1 O1 s1 E1=>?_⟩
 obtain⟨a,xs0,e1,_⟩:=E1.drop.ownAt h0 hc0
 refine⟨.ref a,e1,vw U',E1.drop.view,y,q3,λyv H2 s2 iy=>?_⟩
 cases y with
 |int n=>
  obtain⟨j,j1,q⟩:=bind_some q;cases q;cases(show yv=.int n from iy);obtain⟨a',xs,e2,r4,hl,O2,E2,s3⟩:=(E1.grow s2).change (Ep j) (HN j) (i_set j) h0 hc0;rw[e1]at e2;cases e2;exact⟨a,xs,n,j,rfl,rfl,r4,by rw[<-hl];exact j1,k Y _ O2 (s1.trans (s2.msk.trans s3)) E2⟩
 |_=>cases q
end
def spC (K:Frag) (f:List D->Option Sl):Sp:=λvs H Q _=>∃O ds s,(∀b,O b=true->Hid (H b))/\IsL K (msk O H) ds vs/\f ds=some s/\∀v H',RetOk K ⟨H,O⟩ H' s v->Q v H'
def az (n:Nat) (ds:List D):Ev:=ds.map (λd=>some (.sh,d))++List.replicate (n-ds.length) none
def HP (o:Option Out):Option Sl:=o.bind λo=>match o with
 |.rt d=>some d
 |.nx _=>some (.deep,.non)
 |_=>none
def aO (n m:Nat) (F:Ev->Option Out) (ds:List D):Option Sl:=if ds.length=n then HP (F (az m ds))else none
theorem io (h:aO n m F ds=some d):ds.length=n/\HP (F (az m ds))=some d:=by
 unfold aO at h;split at h
 ·exact⟨by assumption,h⟩
 ·cases h
section
variable {P:Program} {w:World} {K:Frag} {mg:Str->Option Value} {base:Heap}
theorem tE {i:Nat} (q:(az n ds)[i]?=some (some s)):∃d,ds[i]?=some d/\s=(.sh,d):=by
 unfold az at q;by_cases hi:i<ds.length
 ·rw[getElem?_append_left (by simpa using hi),getElem?_map]at q;cases e:ds[i]? with
  |none=>rw[e]at q;cases q
  |some d=>rw[e]at q;cases q;exact⟨d,rfl,rfl⟩
 ·rw[getElem?_append_right (by simpa using hi),List.getElem?_replicate]at q;split at q<;>cases q
theorem ji {O:Addr->Bool} {H:Hp} {N:List Str} {vs:List V} {ds:List D} (hd:∀b,O b=true->Hid (H b)) (il:IsL K (msk O H) ds vs):EnvOk K ⟨H,O⟩ O (f9 N vs) H (az N.length ds) where
 same:=Same.refl _
 bdom:=λb h=>(hd b h).ne
 sub:=λ_ h=>h
 lis:=hd
 len:=by
  unfold f9 az;rw[length_append,length_append,length_map,length_map,List.length_replicate,List.length_replicate,il.len]
 fp:=by
  refine⟨λ_=>[],λi s q=>?_,λ_=>List.nodup_nil,λ_ _ _ h=>(nomatch h),λ_ _ h=>(nomatch h)⟩;obtain⟨d,e,rfl⟩:=tE q;obtain⟨x,hx,ix⟩:=il.get e;refine⟨x,?_,rfl,ix⟩;have hi:i<vs.length:=(List.getElem?_eq_some_iff.mp hx).1;unfold f9;rw[getElem?_append_left (by rw[length_map];exact hi),getElem?_map,hx];rfl
theorem Bt {st} (Fn:Fun K x qual st f fd) (S:FnScope N ps (aj st)) (hb:∀ (cdv:Value) (A:Around) (outer:List Env) (s:Shared) (H:Hp) (E:XK),Room k (A.deeper (envOfC qual (aj st) s.heap.objs.size f cdv))->PRs (gq CX0 P w K mg base N qual (aj st) f cdv A outer s H E).nox (aC st) F):
  FnOk P w K mg base CX0 (k+1) f fd ps (spC K (aO ps.length N.length F)):=by
 refine Fn.ok S (λvs H Q E ⟨O,ds,d,_,il,e,_⟩=>by rw[<-il.len];exact(io e).1) (λcdv A outer s H vs Q E hr ⟨O,ds,d,hd,il,e,kk⟩=>?_)
 refine⟨_,hb cdv A outer s H E hr ⟨H,O⟩ O (az N.length ds),ji hd il,?_⟩
 obtain⟨o,e1,e2⟩:=bind_some (io e).2
 refine⟨o,e1,?_⟩
 cases o with
 |rt d'=>cases e2;exact kk
 |nx U=>cases e2;exactλY' H' O' s' E'=>kk .non H' ⟨O',[],E'.same,E'.sub,E'.lis,List.nodup_nil,λ_ h=>(nomatch h),rfl,rfl⟩
 |bk U=>cases e2
 |ct U=>cases e2
structure Df (P:Program) (w:World) (K:Frag) (mg:Str->Option Value) (base:Heap) (x:Str) (k:Nat) (f:List D->Option Sl):Prop where
 ex:∃ (a:Addr) (fd:FuncData) (ps:List Str),mg x=some (.ref a)/\PySem.W.keepIn K (.ref a)=true/\Binds K fd ps []/\FnOk P w K mg base CX0 k a fd ps (spC K f)
theorem RetOk.is (hd:∀b,O b=true->Hid (H b)) (r:RetOk K ⟨H,O⟩ H' s v):Same H H'/\Is K (msk O H') s.2 v:=by
 obtain⟨O',A,h1,h2,h3,h4,h5,h6⟩:=r;refine⟨h1,h6.is (λb o q=>?_) λa ha=>?_⟩
 ·obtain⟨q1,q2⟩:=aD q;rw[aK ?_];exact q2;cases z:O b with
  |false=>rfl
  |true=>rw[h2 b z]at q1;cases q1
 ·cases z:O a with
  |false=>rfl
  |true=>exact absurd (h5 a ha).2 (hd a z).ne
end
section
variable {X:Cx} {x:Str} {p pos apos:Pos} {e o:Expr} {es:List Expr} {k:Nat} {f:List D->Option Sl} {fa:Vv->Option (List D)}
def jj (o:Option Sl):Option D:=o.bind λs=>some s.2
def oU (o:Option Sl):Option D:=o.bind λs=>match s with
 |(.deep,d)=>some d
 |_=>none
theorem Bu (F:Df X.prog X.w X.K X.mg X.base x k f) (hr:Room k X.A) (hg:Gl X x) (ha:PX X (e::es) fa) (hdb:(x==("__debug__":Str))=false) (he:starEach (e::es) X.env=(false,eval e X.env)::starEach es X.env) (hpl:(backTo pos (starEach es X.env)).any (·.1)=false):
  PP X (.Call (.Name x p) (e::es) [] pos) (λU=>(fa U).bind λds=>jj (f ds)):=λO U=>by
 obtain⟨a,fd,ps,hm,hk,hb,G⟩:=F.ex
 refine(pI G hr hg hm hk hb .nil qS (ha O U) hdb he hpl).imp λY H Q ⟨E,d,q,kk⟩=>?_
 obtain⟨ds,q1,q2⟩:=bind_some q
 obtain⟨s,q3,q4⟩:=bind_some q2
 cases q4
 refine⟨E,ds,q1,λvs H1 s1 il=>?_⟩
 show spC X.K f (vs++[]) H1 Q E0
 rw[List.append_nil]
 refine⟨O,ds,s,(E.grow s1).lis,il,q3,λv H2 r=>?_⟩
 obtain⟨s2,iv⟩:=r.is (E.grow s1).lis
 exact kk v H2 (s1.trans s2) iv
theorem Bv (F:Df X.prog X.w X.K X.mg X.base x k f) (hr:Room k X.A) (hg:Gl X x) (ha:PX X (e::es) fa) (hdb:(x==("__debug__":Str))=false) (he:starEach (e::es) X.env=(false,eval e X.env)::starEach es X.env) (hpl:(backTo pos (starEach es X.env)).any (·.1)=false):
  PFr X (.Call (.Name x p) (e::es) [] pos) (λU=>(fa U).bind λds=>oU (f ds)):=λU=>by
 obtain⟨a,fd,ps,hm,hk,hb,G⟩:=F.ex
 refine PE.pu ((pI G hr hg hm hk hb .nil qS (ha noO U) hdb he hpl).imp λY H Q ⟨E,d,q,kk⟩=>?_) rfl
 obtain⟨ds,q1,q2⟩:=bind_some q
 obtain⟨⟨c,d'⟩,q3,q4⟩:=bind_some q2
 cases c with
 |sh=>cases q4
 |top=>cases q4
 |deep=>
  cases q4;refine⟨E,ds,q1,λvs H1 s1 il=>?_⟩;show spC X.K f (vs++[]) H1 Q E0;rw[List.append_nil];refine⟨noO,ds,_,(E.grow s1).lis,il,q3,λv H2 r=>?_⟩;obtain⟨O',A,h1,h2,h3,h4,h5,h6⟩:=r;exact kk v H2 A (s1.trans h1) (Deep.frame (NL.of msk_le) _ v A (λ_ _ _ h=>h) h6) h4 λa ha=>s1.free (h5 a ha).2
end
def pX:List Str->Str->Option Nat
 |[],_=>none
 |y::r,x=>if y=x then some 0 else(pX r x).map (·+1)
theorem eZ:∀ {l:List Str} {x:Str} {i:Nat},pX l x=some i->l[i]?=some x
 |[],_,_,h=>by cases h
 |y::r,x,i,h=>by
  unfold pX at h;split at h
  ·rename_i e;cases h;simp[e]
  ·cases e:pX r x with
   |none=>rw[e]at h;cases h
   |some j=>
    rw[e]at h;cases h;have:=eZ e;simpa using this
structure Glob where
 fn:Str->Option (Nat×(List D->Option Sl))
 cn:Str->Option D
 no:Str->Bool
 fl:Str->Str->Bool
structure SE where
 N:List Str
 nm:List (Str×NameKind)
 k:Nat
 G:Glob
structure GOk (P:Program) (w:World) (K:Frag) (mg:Str->Option Value) (base:Heap) (G:Glob):Prop where
 fn:∀x k f,G.fn x=some (k,f)->Df P w K mg base x k f
 cn:∀x d,G.cn x=some d->Cn K mg x d
 no:∀x,G.no x=true->mg x=none
 fl:∀C m Ca,G.fl C m=true->nsIn K mainGlobals C=some (some (.ref Ca))->Cls K Ca/\NoAttr K Ca m
structure SOk (X:Cx) (S:SE):Prop where
 g:GOk X.prog X.w X.K X.mg X.base S.G
 N:X.N=S.N
 nd:S.N.Nodup
 calm:X.calm=true
 room:Room S.k X.A
 loc:∀x,S.nm.lookup x=some .local->X.env.scope.names.lookup x=some .local
 cel:∀x,S.nm.lookup x=some .cell->X.env.scope.names.lookup x=some .cell
 fre:∀x,S.nm.lookup x=some .free->X.env.scope.names.lookup x=some .cell\/X.env.scope.names.lookup x=some .free
 glo:∀x,S.nm.lookup x=some .globalImplicit->X.env.kindOf x=some .globalImplicit
def eL (x:Str):Bool:=!(x==("__debug__":Str))&&!(x==("__classdict__":Str))&&!decide (x=("__name__":Str))
def uV:Option NameKind->Bool
 |some .local=>true
 |some .cell=>true
 |some .free=>true
 |_=>false
def slot (S:SE) (x:Str):Option Nat:=if eL x&&uV (S.nm.lookup x)then pX S.N x else none
def pY (x:Str):Option String:=if x=("int":Str)then some "int"else if x=("bool":Str)then some "bool"else if x=("str":Str)then some "str"else if x=("list":Str)then some "list"else if x=("tuple":Str)then some "tuple"else if x=("dict":Str)then some "dict"else none
theorem tF (h:pY x=some n):bootBuiltins x=some (.type n):=by
 unfold pY at h;split at h
 ·rename_i e;cases h;subst e;decide+kernel
 ·split at h
  ·rename_i e;cases h;subst e;decide+kernel
  ·split at h
   ·rename_i e;cases h;subst e;decide+kernel
   ·split at h
    ·rename_i e;cases h;subst e;decide+kernel
    ·split at h
     ·rename_i e;cases h;subst e;decide+kernel
     ·split at h
      ·rename_i e;cases h;subst e;decide+kernel
      ·cases h
section
variable {X:Cx} {S:SE} {pos:Pos}
theorem bn (h:eL x=true):(x==("__debug__":Str))=false/\(x==("__classdict__":Str))=false/\x≠("__name__":Str):=by
 unfold eL at h;rw[and_eq_true,and_eq_true]at h;refine⟨by simpa using h.1.1,by simpa using h.1.2,?_⟩;have:=h.2;simp at this;exact this
end
section
variable {X:Cx} {e o:Expr} {es:List Expr} {p pos apos:Pos}
def tH (fl:Str->Str->Bool) (m:Str):D->Option D
 |.obj C ns ds=>if fl C m then(ns.zip ds).lookup m else none
 |_=>none
theorem mS {K}:∀ {fs:List (Str×V)} {ds:List D},IsL K H ds (fs.map (·.2))->((fs.map (·.1)).zip ds).lookup f=some d->∃v,fs.lookup f=some v/\Is K H d v
 |[],ds,_,e=>by simp at e
 |(n,v)::fs,[],l,e=>by simp at e
 |(n,v)::fs,d'::ds,⟨x,r,z,h,l⟩,e=>by
  have z':v::fs.map (·.2)=x::r:=z;cases z';simp only[List.map_cons,List.zip_cons_cons,List.lookup_cons]at e⊢;cases hf:f==n with
  |true=>rw[hf]at e;cases e;exact⟨v,rfl,h⟩
  |false=>rw[hf]at e;exact mS l e
theorem Es (ho:PP X o fo) (hfl:∀C Ca,fl C m=true->nsIn X.K mainGlobals C=some (some (.ref Ca))->Cls X.K Ca/\NoAttr X.K Ca m) (hbase:attributeBase o m X.env (eval o X.env)=eval o X.env):PP X (.Attribute o m pos) (λU=>(fo U).bind (tH fl m)):=λO U=>by
 refine(wW (ho O U) hbase).imp λY H Q ⟨E,d,q,k⟩=>?_;obtain⟨dv,q1,q⟩:=bind_some q;refine⟨E,dv,q1,λv H1 s1 iv=>?_⟩;cases dv with
 |obj C ns ds=>
  have q':(if fl C m=true then(ns.zip ds).lookup m else none)=some d:=q;split at q'
  ·rename_i hC;obtain⟨a,Ca,dx,fs,rfl,h0,h1,h2,h3⟩:=iv;subst h2;obtain⟨v',e1,e2⟩:=mS h3 q';obtain⟨c,na⟩:=hfl C Ca hC h0;exact⟨a,Ca,dx,fs,v',rfl,msk_le _ _ h1,c,na,e1,k v' H1 s1 e2⟩
  ·cases q'
 |_=>cases q
structure Mf (P:Program) (w:World) (K:Frag) (mg:Str->Option Value) (base:Heap) (C m:Str) (k:Nat) (f:List D->Option Sl):Prop where
 ex:∃ (Ca fa:Addr) (fd:FuncData) (ps:List Str),nsIn K mainGlobals C=some (some (.ref Ca))/\Cls K Ca/\Meth K Ca m fa/\Binds K fd ps []/\FnOk P w K mg base CX0 k fa fd ps (spC K f)
abbrev MT:=Str->Option (Nat×(List D->Option Sl))
def kU (mt:MT) (k0:Nat) (m:Str) (d:D) (as:List D):Option Sl:=match d with
 |.obj C ns _=>(mt C).bind λz=>if z.1<=k0/\m ∉ ns then z.2 (d::as)else none
 |_=>none
theorem kW {α β:Type} [BEq α] [LawfulBEq α] {m}:∀ {l:List (α×β)},m ∉ l.map (·.1)->l.lookup m=none
 |[],_=>rfl
 |(n,v)::l,h=>by
  have h1:(m==n)=false:=by
   simp at h⊢;exact h.1
  rw[List.lookup_cons,h1];exact kW (λz=>h (by simp at z⊢;exact .inr z))
theorem tI {mt} (h:kU mt k0 m d as=some s):∃C ns ds k f,d=.obj C ns ds/\mt C=some (k,f)/\k<=k0/\m ∉ ns/\f (d::as)=some s:=by
 cases d with
 |obj C ns ds=>
  obtain⟨⟨k,f⟩,e,q⟩:=bind_some (show(mt C).bind _=some s from h);split at q
  ·rename_i c;exact⟨C,ns,ds,k,f,rfl,e,c.1,c.2,q⟩
  ·cases q
 |_=>cases h
structure Pick (X:Cx) (mt:MT) (k0:Nat) (m:Str) where
 C:Str
 Ca:Addr
 fa:Addr
 fd:FuncData
 ps:List Str
 k:Nat
 f:List D->Option Sl
 h:mt C=some (k,f)/\k<=k0/\nsIn X.K mainGlobals C=some (some (.ref Ca))/\Cls X.K Ca/\Meth X.K Ca m fa/\Binds X.K fd ps []/\FnOk X.prog X.w X.K X.mg X.base CX0 k fa fd ps (spC X.K f)
theorem Bw {mt} (hmt:∀C k f,mt C=some (k,f)->Mf X.prog X.w X.K X.mg X.base C m k f) (h:mt C=some (k,f)) (hk:k<=k0):∃z:Pick X mt k0 m,z.C=C/\z.k=k/\z.f=f:=by
 obtain⟨Ca,fa,fd,ps,h1,h2,h3,h4,h5⟩:=(hmt C k f h).ex;exact⟨⟨C,Ca,fa,fd,ps,k,f,h,hk,h1,h2,h3,h4,h5⟩,rfl,rfl,rfl⟩
def x5 (fo:Vv->Option D) (fa:Vv->Option (List D)) (mt:MT) (k0:Nat) (m:Str):Vv->Option Sl:=λU=>(fo U).bind λd=>(fa U).bind λas=>kU mt k0 m d as
theorem Et {K} (h:Is K H (.obj C ns ds) v) (hc:nsIn K mainGlobals C=some (some (.ref Ca))) (hn:m ∉ ns):∃a dx fs,v=.ref a/\H a=some (.ins Ca dx fs)/\fs.lookup m=none:=by
 obtain⟨a,Cb,dx,fs,rfl,h0,h1,h2,h3⟩:=h;rw[hc]at h0;cases h0;subst h2;exact⟨a,dx,fs,rfl,h1,kW hn⟩
theorem wf (hfew:methodCallForm args.length (backTo pos (starEach args env)) (backToKw pos (keywordEach [] env)) = true) (hline:(apos.endLine == pos.line) = true) :
  eval (.Call (.Attribute (.Name x px) m apos) args [] pos) env = (do
   let ov <- eval (.Name x px) env
   standAt apos.atName
   let (f,first) <- holding [ov] (getMethod ov m (do return (<- importBound (.Name x px) env).getD true))
   callWith pos f first (backTo pos (starEach args env)) (backToKw pos (keywordEach [] env))):=by
 show (do
  let ov <- eval (.Name x px) env
  standAt apos.atName
  methodCall (.Name x px) m apos pos env ov (args.length + 0) (backTo pos (starEach args env)) (backToKw pos (keywordEach [] env))) = _
 have hm:∀ ov,methodCall (.Name x px) m apos pos env ov (args.length + 0) (backTo pos (starEach args env)) (backToKw pos (keywordEach [] env)) = (do
   let (f,first) <- holding [ov] (getMethod ov m (do return (<- importBound (.Name x px) env).getD true))
   callWith pos f first (backTo pos (starEach args env)) (backToKw pos (keywordEach [] env))):=fun ov=>by
  unfold methodCall
  rw [Nat.add_zero,hfew]
  simp only [calleeOf,methodCallPos,hline,Bool.not_true,Bool.false_or,if_true,pure_bind]
 simp only [hm]
theorem wg {mt} (ho:PP X (.Name x px) fo) (hmt:∀C k f,mt C=some (k,f)->Mf X.prog X.w X.K X.mg X.base C m k f) (hr:Room k0 X.A) (hline:(apos.endLine==pos.line)=true) (O:Addr->Bool) (U:Vv):
  PE X (.Call (.Attribute (.Name x px) m apos) [] [] pos) (λY H Q=>VE X.K O Y H U/\∃s,x5 fo (λ_=>some []) mt k0 m U=some s/\∀v H1 H',Same H H1->RetOk X.K ⟨H1,O⟩ H' s v->Q v H'):=by
 refine(PE.ex λz:Pick X mt k0 m=>w4 (pos:=pos) (apos:=apos) (ho O U) z.h.2.2.2.1 z.h.2.2.2.2.1 z.h.2.2.2.2.2.2 (hr.mono z.h.2.1) z.h.2.2.2.2.2.1 .nil qS (wf rfl hline)).imp λY H Q ⟨E,s,q,kk⟩=>?_
 obtain⟨d,q1,q⟩:=bind_some q
 obtain⟨C,ns,ds,k,f,hd,hm,hk,hn,hf⟩:=tI (show kU mt k0 m d []=some s from q)
 obtain⟨z,rfl,rfl,rfl⟩:=Bw hmt hm hk
 refine⟨z,E,d,q1,λv H1 s1 iv=>?_⟩
 subst hd
 obtain⟨a,dx,fs,ev,ea,el⟩:=Et iv z.h.2.2.1 hn
 refine⟨a,dx,fs,ev,msk_le _ _ ea,el,?_⟩
 show spC X.K z.f (v::([]++[])) H1 Q E0
 exact⟨O,[_],s,(E.grow s1).lis,⟨v,[],rfl,iv,rfl⟩,hf,λw' H3 r=>kk w' H1 H3 s1 r⟩
theorem Eu {f:Vv->Option Sl} (h:PE X e (λY H Q=>VE X.K O Y H U/\∃s,f U=some s/\∀v H1 H',Same H H1->RetOk X.K ⟨H1,O⟩ H' s v->Q v H')):PE X e (tP X.K O U (jj (f U))):=h.imp λY H Q ⟨E,d,q,k⟩=>by
 obtain⟨s,q1,q2⟩:=bind_some q;cases q2;refine⟨E,s,q1,λv H1 H' s1 r=>?_⟩;obtain⟨s2,iv⟩:=r.is (E.grow s1).lis;exact k v H' (s1.trans s2) iv
def spI (K:Frag) (Ca:Addr) (g:List D->Option (List (Str×D))):Sp:=λvs H Q _=>∃x vs' dx O ds fd,vs=.ref x::vs'/\H x=some (.ins Ca dx [])/\(∀b,O b=true->Hid (H b))/\O x=true/\IsL K (msk O H) ds vs'/\g ds=some fd/\
 ∀H' fs,(∀b o,b≠x->H b=some o->H' b=some o)->H' x=some (.ins Ca dx fs)->fs.map (·.1)=fd.map (·.1)->IsL K (msk O H') (fd.map (·.2)) (fs.map (·.2))->Q .non H'
structure Mkf (P:Program) (w:World) (K:Frag) (mg:Str->Option Value) (base:Heap) (C:Str) (k:Nat) (g:List D->Option (List (Str×D))):Prop where
 ex:∃ (Ca fa:Addr) (fd:FuncData) (ps:List Str),mg C=some (.ref Ca)/\nsIn K mainGlobals C=some (some (.ref Ca))/\Mk K Ca fa/\Binds K fd ps []/\FnOk P w K mg base CX0 k fa fd ps (spI K Ca g)
def wj (C:Str) (o:Option (List (Str×D))):Option D:=o.bind λfd=>some (.obj C (fd.map (·.1)) (fd.map (·.2)))
theorem Bx (F:Mkf X.prog X.w X.K X.mg X.base C k g) (hr:Room (k+1) X.A) (hg:Gl X C) (ha:PX X (e::es) fa) (hdb:(C==("__debug__":Str))=false) (he:starEach (e::es) X.env=(false,eval e X.env)::starEach es X.env) (hpl:(backTo pos (starEach es X.env)).any (·.1)=false):
  PP X (.Call (.Name C p) (e::es) [] pos) (λU=>(fa U).bind λds=>wj C (g ds)):=λO U=>by
 obtain⟨Ca,f,fd,ps,hm,hns,M,hb,G⟩:=F.ex
 refine(AN M G hr hg hm hb .nil qS (ha O U) hdb he hpl).imp λY H Q ⟨E,d,q,kk⟩=>?_
 obtain⟨ds,q1,q2⟩:=bind_some q
 obtain⟨fl,q3,q4⟩:=bind_some q2
 cases q4
 refine⟨E,ds,q1,λvs H1 s1 il x dx hx hdx hne=>?_⟩
 have E1:=E.grow s1
 have hOx:=E1.fresh hx
 have s2:Same H1 (upd (upd H1 dx (.own x)) x (.ins Ca dx [])):=λb o q=>by
  rw[ag (ak q hx),ag (ak q hdx)];exact q
 have le:Same (msk O H1) (msk (λb=>O b||decide (b=x)) (upd (upd H1 dx (.own x)) x (.ins Ca dx []))):=λb o q=>by
  obtain⟨q1,q2⟩:=aD q;have hb:b≠x:=ak q2 hx;rw[aK (by simp[q1,hb])];exact s2 _ _ q2
 show spI X.K Ca g (.ref x::(vs++[])) _ _ E0
 rw[List.append_nil]
 refine⟨x,vs,dx,λb=>O b||decide (b=x),ds,fl,rfl,upd_same,λb hb=>?_,by simp,IsL.mono le _ _ il,q3,λH' fs keep hx' hns' hl=>⟨rfl,?_⟩⟩
 ·rcases(Bool.or_eq_true _ _).mp hb with hb|hb
  ·exact(E1.lis b hb).same s2
  ·rw[of_decide_eq_true hb,upd_same];exact .inr (.inl ⟨_,_,_,rfl⟩)
 ·have s3:Same H1 H':=λb o q=>keep b o (ak q hx) (s2 _ _ q);refine kk _ H' (s1.trans s3) ⟨x,Ca,dx,fs,rfl,hns,by rw[aK hOx];exact hx',hns',IsL.mono (λb o q=>?_) _ _ hl⟩;obtain⟨q1,q2⟩:=aD q;have:O b=false:=by
   cases z:O b with
   |false=>rfl
   |true=>simp[z]at q1
  rw[aK this];exact q2
end
section
variable {K:Frag} {B:Bs} {O:Addr->Bool} {Y:St} {H:Hp} {U:Ev}
theorem EnvOk.thaw (E:EnvOk K B O (Y++[some v]) H (U++[some s])):∃O',EnvOk K B O' Y H U/\Same (msk O H) (msk O' H)/\Is K (msk O' H) s.2 v:=by
 obtain⟨F,h1,h2,h3,h4⟩:=E.fp;have len:Y.length=U.length:=by have:=E.len;simp at this;exact this
 obtain⟨v',e1,o1⟩:=h1 U.length s (getElem?_last _ _);rw[<-len,getElem?_last]at e1;cases e1;let O':Addr->Bool:=λb=>O b&&!decide (b∈F U.length);have le:Same (msk O H) (msk O' H):=λb o q=>by
  obtain⟨q1,q2⟩:=aD q;rw[aK (by simp[O',q1])];exact q2
 refine⟨O',⟨E.same,E.bdom,λb hb=>?_,λb hb=>E.lis b (by simp[O']at hb;exact hb.1),len,λj=>if j=U.length then[]else F j,λj x q=>?_,λj=>?_,λj k a hj hk=>?_,λj a hj=>?_⟩,le,o1.is le λa ha=>by simp[O',ha]⟩
 ·have h6:b ∉ F U.length:=λz=>E.bdom b hb (h4 _ b z).2;simp[O',E.sub b hb,h6]
 ·have hjl:=(List.getElem?_eq_some_iff.mp q).1;have hj:j≠U.length:=by omega
  obtain⟨w,e2,o2⟩:=h1 j x (by rw[getElem?_append_left hjl];exact q);exact⟨w,dZ (by omega) e2,by simp only[if_neg hj];exact o2.frame le λ_ _ _ h=>h⟩
 ·dsimp only;split
  ·exact List.nodup_nil
  ·exact h2 _
 ·dsimp only at hj hk;split at hj
  ·cases hj
  ·split at hk
   ·cases hk
   ·exact h3 _ _ a hj hk
 ·dsimp only at hj;split at hj
  ·cases hj
  ·rename_i hjn;have h6:a ∉ F U.length:=λz=>hjn (h3 _ _ a hj z);exact⟨by simp[O',(h4 _ a hj).1,h6],(h4 _ a hj).2⟩
theorem EnvOk.store (E:EnvOk K B O Y H U) (hx:B.O x=true) (hb:B.H x=some (.ins Ca dx fs)):EnvOk K ⟨upd B.H x (.ins Ca dx fs'),B.O⟩ O Y (upd H x (.ins Ca dx fs')) U/\msk O (upd H x (.ins Ca dx fs'))=msk O H:=by
 have me:msk O (upd H x (.ins Ca dx fs'))=msk O H:=fK (E.sub x hx);obtain⟨F,h1,h2,h3,h4⟩:=E.fp;have no:∀i,x ∉ F i:=λi z=>by have:=(h4 i x z).2;rw[hb]at this;cases this
 refine⟨⟨λb o q=>?_,λb q=>?_,E.sub,λb q=>?_,E.len,F,λi s q=>?_,h2,h3,λi a ha=>⟨(h4 i a ha).1,?_⟩⟩,me⟩
 ·have q':upd B.H x (.ins Ca dx fs') b=some o:=q;by_cases h:b=x
  ·subst h;rw[upd_same]at q'⊢;exact q'
  ·rw[ag h]at q'⊢;exact E.same b o q'
 ·by_cases h:b=x
  ·subst h;show upd B.H b _ b≠none;rw[upd_same];simp
  ·show upd B.H x _ b≠none;rw[ag h];exact E.bdom b q
 ·by_cases h:b=x
  ·subst h;rw[upd_same];exact .inr (.inl ⟨_,_,_,rfl⟩)
  ·rw[ag h];exact E.lis b q
 ·obtain⟨v,e,o⟩:=h1 i s q;refine⟨v,e,o.frame (by rw[me];exact Same.refl _) λa ha u hu=>?_⟩;have:a≠x:=λz=>no i (z▸ha);rw[ag this];exact hu
 ·have:a≠x:=λz=>no i (z▸ha);show upd B.H x _ a=none;rw[ag this];exact(h4 i a ha).2
end
def jV (f:Str) (d:D):List (Str×D)->List (Str×D)
 |[]=>[(f,d)]
 |(g,e)::r=>if g=f then(g,d)::r else(g,e)::jV f d r
theorem pZ {K} (h:Is K M d v):∀ {fd:List (Str×D)} {fs:List (Str×V)},fs.map (·.1)=fd.map (·.1)->IsL K M (fd.map (·.2)) (fs.map (·.2))->
  (dW f v fs).map (·.1)=(jV f d fd).map (·.1)/\IsL K M ((jV f d fd).map (·.2)) ((dW f v fs).map (·.2))
 |[],[],_,_=>⟨rfl,v,[],rfl,h,rfl⟩
 |[],_::_,e,_=>by simp at e
 |_::_,[],e,_=>by simp at e
 |(g,c)::fd,(g',u)::fs,e,⟨x,r,z,q,l⟩=>by
  have e1:g'=g:=by simp at e;exact e.1
  have e2:fs.map (·.1)=fd.map (·.1):=by simp at e;simpa using e.2
  subst e1;have z':u::fs.map (·.2)=x::r:=z;cases z';unfold dW jV;by_cases hg:g'=f
  ·rw[if_pos hg,if_pos hg];exact⟨by simp[e2],v,_,rfl,h,l⟩
  ·rw[if_neg hg,if_neg hg];obtain⟨a,b⟩:=pZ h e2 l;exact⟨by simp[a],u,_,rfl,q,b⟩
abbrev InF:=Ev->List (Str×D)->Option (List (Str×D))
def tIn (K:Frag) (Ca:Addr) (B:Bs) (O:Addr->Bool) (U:Ev) (x dx:Addr) (fd:List (Str×D)) (o:Option (List (Str×D))):TS:=λEn Y H=>EnvOk K B O Y H U/\B.O x=true/\
 (∃fs,B.H x=some (.ins Ca dx fs)/\fs.map (·.1)=fd.map (·.1)/\IsL K (msk O H) (fd.map (·.2)) (fs.map (·.2)))/\∃fd',o=some fd'/\
 ∀Y' H' O' fs',(∀b o,b≠x->B.H b=some o->H' b=some o)->(∀b,B.O b=true->O' b=true)->H' x=some (.ins Ca dx fs')->fs'.map (·.1)=fd'.map (·.1)->IsL K (msk O' H') (fd'.map (·.2)) (fs'.map (·.2))->En.nx Y' H'
def PIn (X:Cx) (Ca x:Addr) (st:List Stmt) (I:InF):Prop:=∀B O U dx fd,PSs X st (tIn X.K Ca B O U x dx fd (I U fd))
def By:InF:=λ_ fs=>some fs
def stI (F:Ev->Option Out) (G:InF):InF:=λU fs=>(F U).bind λo=>match o with
 |.nx U'=>G U' fs
 |_=>none
def rC (x:Addr) (i:Nat) (f:Str) (g:Ev->Option (Sl×Ev)) (G:InF):InF:=λU fs=>(g U).bind λz=>match eX z.2 i with
 |some (.sh,.adr a)=>if a=x/\fs.length<900 then G z.2 (jV f z.1.2 fs)else none
 |_=>none
section
variable {X:Cx} {Ca x:Addr} {st:Stmt} {rest:List Stmt} {e:Expr} {pos:Pos}
theorem Ew:PIn X Ca x [] By:=λB O U dx fd=>pss_nil.imp λEn Y H ⟨E,hx,⟨fs,h1,h2,h3⟩,fd',q,k⟩=>by
 cases q;exact k Y H O fs (λb o _ h=>E.same b o h) E.sub (E.same x _ h1) h2 h3
theorem Bz (h1:PR X st F) (h2:PIn X Ca x rest G):PIn X Ca x (st::rest) (stI F G):=λB O U dx fd=>
 (jb (h1 B O U) (PSs.ex λz:(Addr->Bool)×Ev=>h2 B z.1 z.2 dx fd)).imp λEn Y H ⟨E,hx,⟨fs,a1,a2,a3⟩,fd',q,k⟩=>by
 obtain⟨o1,q1,q2⟩:=bind_some q;refine⟨E,o1,q1,?_⟩;cases o1 with
 |nx U'=>exactλY' H' O' s' E'=>⟨⟨O',U'⟩,E',hx,⟨fs,a1,a2,IsL.mono s' _ _ a3⟩,fd',q2,k⟩
 |rt d=>cases q2
 |bk U'=>cases q2
 |ct U'=>cases q2
theorem Ex (i:Nat) (hv:PEv X e g) (h2:PIn X Ca x rest G) (hN:X.N[i]?=some self) (hvis:Vis X.env.scope self) (hd:(self==("__debug__":Str))=false) (hcd:(self==("__classdict__":Str))=false) (hs:swapsWith e (some (.Attribute (.Name self px) f pos')) pos.line X.env=pure false) (c:Cls X.K Ca) (na:NoAttr X.K Ca f):PIn X Ca x (.Assign [.Attribute (.Name self px) f pos'] e pos::rest) (rC x i f g G):=λB O U dx fd=>
 (jb (wX (b7 hN hvis hd hcd) (hv B O U).1 hs) (PSs.ex λz:Bs×(Addr->Bool)×Ev×List (Str×D)=>h2 z.1 z.2.1 z.2.2.1 dx z.2.2.2)).imp λEn Y H ⟨E,hx,⟨fs,a1,a2,a3⟩,fd',q,k⟩=>by
 obtain⟨⟨s,U'⟩,q1,q⟩:=bind_some q;refine⟨E,s,U',q1,λy H1 O1 s1 E1=>?_⟩;obtain⟨O2,E2,s2,iy⟩:=E1.thaw;have q':(match eX U' i with|some (.sh,.adr a)=>if a=x/\fd.length<900 then G U' (jV f s.2 fd)else none|_=>none)=some fd':=q;split at q'
 ·rename_i a ha;split at q'
  ·rename_i hc;obtain⟨rfl,hl⟩:=hc;obtain⟨F,f1,_⟩:=E2.fp;obtain⟨w,ew,ow⟩:=f1 i _ (dO ha);cases(show w=.ref a from ow.2);have hb:=E2.same a _ a1;have hlen:fs.length=fd.length:=by have:=congrArg List.length a2;simpa using this
   refine⟨.ref a,ew,a,Ca,dx,fs,rfl,hb,c,na,by omega,?_⟩;obtain⟨E3,me⟩:=E2.store (fs':=dW f y fs) hx a1;have a3':=IsL.mono (s1.trans s2) _ _ a3;obtain⟨b1,b2⟩:=pZ (f:=f) iy a2 a3';refine⟨⟨⟨upd B.H a (.ins Ca dx (dW f y fs)),B.O⟩,O2,U',jV f s.2 fd⟩,E3,hx,⟨_,upd_same,b1,by rw[me];exact b2⟩,fd',q',λY' H' O' fs' k1 k2 k3 k4 k5=>k Y' H' O' fs' (λb o hb h=>k1 b o hb (by show upd B.H a _ b=some o;rw[ag hb];exact h)) k2 k3 k4 k5⟩
  ·cases q'
 ·cases q'
end
def Ey (n:Nat) (x:Addr) (ds:List D):Ev:=az n (.adr x::ds)
def rD (n m:Nat) (I:Addr->InF) (x:Addr) (ds:List D):Option (List (Str×D)):=if ds.length+1=n then I x (Ey m x ds) []else none
theorem Kx {K} {st} (Fn:Fun K x qual st f fd) (S:FnScope N ps (aj st)) (hg:∀ds r,g ds=some r->∀y,rD ps.length N.length I y ds=some r) (hb:∀ (y:Addr) (cdv:Value) (A:Around) (outer:List Env) (s:Shared) (H:Hp) (E:XK),Room k (A.deeper (envOfC qual (aj st) s.heap.objs.size f cdv))->PIn (gq CX0 P w K mg base N qual (aj st) f cdv A outer s H E).nox Ca y (aC st) (I y)):
  FnOk P w K mg base CX0 (k+1) f fd ps (spI K Ca g):=by
 refine Fn.ok S (λvs H Q E ⟨y,vs',dx,O,ds,r,e1,_,_,_,il,e,_⟩=>?_) (λcdv A outer s H vs Q E hr ⟨y,vs',dx,O,ds,r,e1,hy,hO,hOy,il,e,kk⟩=>?_)
 ·have:=hg ds r e 0;unfold rD at this;split at this
  ·rename_i h;rw[e1,length_cons,<-il.len];exact h
  ·cases this
 ·have q:=hg ds r e y;unfold rD at q;split at q
  ·subst e1;have il':IsL K (msk O H) (.adr y::ds) (.ref y::vs'):=⟨_,_,rfl,rfl,il⟩;refine⟨_,hb y cdv A outer s H E hr ⟨H,O⟩ O (az N.length (.adr y::ds)) dx [],ji hO il',hOy,⟨[],hy,rfl,rfl⟩,r,q,λY' H' O' fs' k1 k2 k3 k4 k5=>?_⟩;refine kk H' fs' k1 k3 k4 (IsL.mono (λb o z=>?_) _ _ k5);obtain⟨z1,z2⟩:=aD z;rw[aK ?_];exact z2;cases zz:O b with
   |false=>rfl
   |true=>rw[k2 b zz]at z1;cases z1
  ·cases q
structure NSt (b:Bool) (z j l:Addr) (k:Nat) (h:Heap):Prop where
 ne:z≠j
 hz:∃old,IsEnum h z j k old
 h1:ItK b h j l k
section
variable {prog:Program} {w:World} {A:Around} {E:Value->Shared->Prop} {s:Shared}
theorem x6 {k:Nat} {Q:Value->Shared->Prop} (Z:IsEnum s.heap z j k old) (J:ItK b s.heap j l k) (C:CoK b s.heap l xs) (hx:xs[k]?=some x) (ne:z≠j) (hQ:∀g,IsEnumOut g z j ((k:Int)+1) x s.heap.objs.size->ItK b g j l (k+1)->g.get? s.heap.objs.size=some {cls:=.type "tuple",data:=.seq #[.int k s.toks,x]}->g.objs.size=s.heap.objs.size+1->
   (∀d o,d≠z->d≠j->s.heap.get? d=some o->g.get? d=some o)->Q (.ref s.heap.objs.size) {s with heap:=g,toks:=s.toks+1}):
  wpAny (model prog w) A (Builtin.«enumerate.__next__» ⟨[.ref z],[]⟩) (λfin s'=>∃v,fin=.done (.ret v)/\Q v s') E s:=by
 cases s with
 |mk hp gn dr tk os=>
 show wpAny _ _ (field (.ref z) 2>>=_) _ _ _
 refine wpAny_bind (wpAny_field Z rfl (x:=.ref j) rfl (wpAny_bind (HH J C hx λg1 J1 s1=>?_)))
 replace s1:Heap.SameBut j hp g1:=s1
 have Z1:IsEnum g1 z j k old:=(s1.2 z ne).trans Z
 show wpAny _ _ (field (.ref z) 3>>=_) _ _ ⟨g1,gn,dr,tk,os⟩
 refine wpAny_bind (wpAny_field Z1 rfl (x:=rawInt k) rfl ?_)
 show wpAny _ _ (field (.ref z) 4>>=_) _ _ ⟨g1,gn,dr,tk,os⟩
 refine wpAny_bind (wpAny_field Z1 rfl (x:=.none) rfl ?_)
 show wpAny _ _ (mkInt k>>=_) _ _ ⟨g1,gn,dr,tk,os⟩
 refine wpAny_bind (wpAny_mkInt ?_)
 show wpAny _ _ (setField (.ref z) 3 (rawInt ((k:Int)+1))>>=_) _ _ ⟨g1,gn,dr,tk+1,os⟩
 refine wpAny_bind (wpAny_setField_rec Z1 (by simp) λg2 Z2 s2=>?_)
 replace s2:Heap.SameBut z g1 g2:=s2
 replace Z2:IsEnum g2 z j ((k:Int)+1) old:=Z2
 show wpAny _ _ (setField (.ref z) 4 .none>>=_) _ _ ⟨g2,gn,dr,tk+1,os⟩
 refine wpAny_bind (wpAny_setField_rec Z2 (by simp) λg3 Z3 s3=>?_)
 replace s3:Heap.SameBut z g2 g3:=s3
 replace Z3:IsEnum g3 z j ((k:Int)+1) old:=Z3
 show wpAny _ _ (newTuple [.int k tk,x]>>=_) _ _ ⟨g3,gn,dr,tk+1,os⟩
 refine wpAny_bind (wpAny_newTuple ?_)
 have Z4:IsEnum (g3.push {cls:=.type "tuple",data:=.seq #[.int k tk,x]}) z j ((k:Int)+1) old:=Heap.get?_push_of_some _ Z3
 have sz:g3.objs.size=hp.objs.size:=by rw[s3.1,s2.1,s1.1]
 have zl:z<hp.objs.size:=Heap.lt_size Z
 have T4:(g3.push {cls:=.type "tuple",data:=.seq #[.int k tk,x]}).get? hp.objs.size=some {cls:=.type "tuple",data:=.seq #[.int k tk,x]}:=by rw[<-sz];exact Heap.get?_push_size _ rfl
 have z4:(g3.push {cls:=.type "tuple",data:=.seq #[.int k tk,x]}).objs.size=hp.objs.size+1:=by rw[Heap.size_push,sz]
 have k4:∀d o,d≠z->d≠j->hp.get? d=some o->(g3.push {cls:=.type "tuple",data:=.seq #[.int k tk,x]}).get? d=some o:=λd o n1 n2 e=>
  Heap.get?_push_of_some _ (s3.extBut d o n1 (s2.extBut d o n1 (s1.extBut d o n2 e)))
 have J4:ItK b (g3.push {cls:=.type "tuple",data:=.seq #[.int k tk,x]}) j l (k+1):=((J1.ext s2 ne.symm).ext s3 ne.symm).at λo e=>Heap.get?_push_of_some _ e
 generalize g3.push {cls:=.type "tuple",data:=.seq #[.int k tk,x]}=g4 at Z4 T4 z4 k4 J4
 show wpAny _ _ (Builtin.SmallTypes.ownedTupleIsFree (.ref z)>>=_) _ _ ⟨g4,gn,dr,tk+1,os⟩
 rw[sz]
 refine wpAny_bind ?_
 unfold Builtin.SmallTypes.ownedTupleIsFree
 refine wpAny_bind (wpAny_field Z4 rfl (x:=.none) rfl (wpAny_pure ?_))
 simp only[if_true]
 refine wpAny_bind (wpAny_rule (wpAny_bind (wpAny_field Z4 rfl (x:=old) rfl (wpAny_bind (wpAny_setField_rec Z4 (by simp) λg5 Z5 s5=>?_)))))
 replace s5:Heap.SameBut z g4 g5:=s5
 replace Z5:IsEnum g5 z j ((k:Int)+1) x:=Z5
 show wpAny _ _ (Builtin.SmallTypes.ownedTupleHandOut (.ref z) (.ref hp.objs.size)>>=_) _ _ ⟨g5,gn,dr,tk+1,os⟩
 refine wpAny_bind ?_
 unfold Builtin.SmallTypes.ownedTupleHandOut
 refine wpAny_bind (wpAny_setField_rec Z5 (by simp) λg6 Z6 s6=>?_)
 replace s6:Heap.SameBut z g5 g6:=s6
 replace Z6:IsEnumOut g6 z j ((k:Int)+1) x hp.objs.size:=Z6
 refine wpAny_setField_rec Z6 (by simp) λg7 Z7 s7=>?_
 replace s7:Heap.SameBut z g6 g7:=s7
 replace Z7:IsEnumOut g7 z j ((k:Int)+1) x hp.objs.size:=Z7
 have up:∀d o,d≠z->g4.get? d=some o->g7.get? d=some o:=λd o n e=>s7.extBut d o n (s6.extBut d o n (s5.extBut d o n e))
 exact wpAny_bind (wpAny_letGo (wpAny_pure ⟨_,rfl,hQ g7 Z7 (J4.at λo e=>up _ o ne.symm e) (up _ _ (Nat.ne_of_gt zl) T4) (by rw[s7.1,s6.1,s5.1,z4]) λd o n1 n2 e=>up d o n1 (k4 d o n1 n2 e)⟩))
theorem x8 (Z:NSt b z j l k s.heap) (C:CoK b s.heap l xs) (hx:xs[k]?=some x) (hQ:∀g,IsEnumOut g z j ((k:Int)+1) x s.heap.objs.size->ItK b g j l (k+1)->g.get? s.heap.objs.size=some {cls:=.type "tuple",data:=.seq #[.int k s.toks,x]}->g.objs.size=s.heap.objs.size+1->
   (∀d o,d≠z->d≠j->s.heap.get? d=some o->g.get? d=some o)->Q (some (.ref s.heap.objs.size)) {s with heap:=g,toks:=s.toks+1}):wpAny (model prog w) A (pyNext (.ref z)) Q E s:=by
 obtain⟨ne,⟨old,hz⟩,h1⟩:=Z
 have T:s.TypeIs (.ref z) "enumerate":=⟨_,hz,rfl⟩
 unfold pyNext
 exact wpAny_bind (wpAny_attempt (wpAny_callSpecial?_slot (name:=Str.ofString "__next__") T F.slot_enumerate_next (wpAny_call_entry F.slot_enumerate_next T F.entry_enumerate_next
  (x6 hz h1 C hx ne λg a c d e f=>wpAny_pure (hQ g a c d e f)) (F.args_enumerate_next_1 _))))
theorem x9 (hh:A.handled=none) (Z:NSt b z j l k s.heap) (C:CoK b s.heap l xs) (hx:xs[k]?=none) (hQ:∀g,Heap.ExtBut j s.heap g->Q none {s with heap:=g}):wpAny (model prog w) A (pyNext (.ref z)) Q E s:=by
 obtain⟨ne,⟨old,hz⟩,h1⟩:=Z;have T:s.TypeIs (.ref z) "enumerate":=⟨_,hz,rfl⟩;unfold pyNext;refine wpAny_bind (wpAny_attempt (wpAny_callSpecial?_slot (name:=Str.ofString "__next__") T F.slot_enumerate_next (wpAny_call_entry F.slot_enumerate_next T F.entry_enumerate_next ?_ (F.args_enumerate_next_1 _))));show wpAny _ _ (field (.ref z) 2>>=_) _ _ _;refine wpAny_bind (wpAny_field hz rfl (x:=.ref j) rfl (wpAny_bind (wd hh h1 C hx λg e q he=>?_)));obtain⟨o,ho,hc⟩:=he;exact wpAny_bind (wpAny_isInstance (T:="StopIteration") (b:=true) ⟨o,ho,hc⟩ isSubtype_stop (wpAny_pure (hQ _ q)))
abbrev nG (h:Heap) (b:Bool) (l:Addr):Heap:=(h.push (mO b l)).push {cls:=.type "enumerate",data:=.fields #[.none,.bool false,.ref h.objs.size,rawInt 0,.none,.none]}
theorem BA (b:Bool) (l:Addr) (xs:Array Value):Meets (Builtin.«enumerate.__new__» ⟨[.type "enumerate",.ref l],[]⟩) (λ_ R s=>CoK b s.heap l xs/\
   R (.ok (.ret (.ref (s.heap.push (mO b l)).objs.size))) {s with heap:=nG s.heap b l}):=
 .of_wp λprog w A R s h=>by
  cases s with
  |mk hp gn dr tk os=>
  obtain⟨c0,h⟩:=h;have hsub:=sub_enumerate;have C:CoK b (Shared.heap ⟨hp,gn,dr,tk,os⟩) l xs:=c0;wp_walk using xL C;refine wpAny_stack_any λst=>wpAny_pure ?_;split
  ·rename_i c _ _ _ _ _;cases(c==Value.type "enumerate")<;>(wp_walk using xL C;exact⟨_,rfl,h⟩)
  ·wp_walk using xL C;exact⟨_,rfl,h⟩
theorem ya (C:CoK b s.heap l xs) (h:∀g,NSt b (s.heap.objs.size+1) s.heap.objs.size l 0 g->g.objs.size=s.heap.objs.size+2->(∀d o,s.heap.get? d=some o->g.get? d=some o)->Q (.ref (s.heap.objs.size+1)) {s with heap:=g}):
  wpAny (model prog w) A (call (.type "enumerate") [.ref l]) Q E s:=by
 refine callType_new F.called_enumerate (by decide) (F.typeCall_enumerate_1 _) (F.newCall_enumerate_1 _) (λobj=>F.args_object_init_2 obj _) F.entry_enumerate_new (BA b l xs) ⟨C,?_⟩
 have z1:(s.heap.push (mO b l)).objs.size=s.heap.objs.size+1:=Heap.size_push ..
 have g2:IsEnum (nG s.heap b l) (s.heap.objs.size+1) s.heap.objs.size 0 .none:=by
  have:=Heap.get?_push_size (s.heap.push (mO b l)) (o:={cls:=.type "enumerate",data:=.fields #[.none,.bool false,.ref s.heap.objs.size,rawInt 0,.none,.none]}) rfl;rw[z1]at this;exact this
 have fb:(mO b l).isFreed=false:=by cases b<;>rfl
 have g1:(nG s.heap b l).get? s.heap.objs.size=some (mO b l):=Heap.get?_push_of_some _ (Heap.get?_push_size _ fb)
 have i1:ItK b (nG s.heap b l) s.heap.objs.size l 0:=by cases b<;>exact⟨_,g1,rfl,rfl⟩
 show _/\_
 rw[z1]
 exact⟨⟨_,g2,rfl⟩,h _ ⟨Nat.succ_ne_self _,⟨_,g2⟩,i1⟩ (by rw[Heap.size_push,z1]) λd o x=>Heap.get?_push_of_some _ (Heap.get?_push_of_some _ x)⟩
end
def Itn (K:Frag) (b:Bool) (l:Addr):It:=
 ⟨λi H=>∃xs x,SqK b K H l xs/\xs[i]?=some x,
  λi H v H'=>∃p x,v=.ref p/\H p=none/\H'=upd H p (.tup [.int i,x])/\∀xs,SqK b K H l xs->xs[i]?=some x,
  λi H=>∃xs,SqK b K H l xs/\xs.length<=i⟩
theorem NSt.live (Z:NSt b z j l k h) (hd:d∈[z,j]):∃o,h.get? d=some o/\∀v,o.data≠.cell v:=by
 simp at hd;rcases hd with rfl|rfl
 ·obtain⟨old,e⟩:=Z.hz;exact⟨_,e,λv q=>by cases q⟩
 ·obtain⟨o,n,vs,e,_,dd,_⟩:=Z.h1.live;exact⟨o,e,λv q=>by rw[dd]at q;cases q⟩
theorem yb {P:Program} {w:World} {K:Frag} {elts:List Expr} {x1:Nat} {tpos:Pos} (b:Bool) (l z j:Addr):
  Turn P w K (.Tuple elts x1 tpos) (Itn K b l) [z,j] z (λi h=>NSt b z j l i h) where
 mem:=by simp
 obj:=λi h Z d hd=>Z.live hd
 keep:=λi h h' Z k=>by
  obtain⟨old,e⟩:=Z.hz;exact⟨Z.ne,⟨old,k z (by simp) _ e⟩,Z.h1.at λo q=>k j (by simp) o q⟩
 item:=by
  intro X hP hw hK hc i pins s Y H E I hf Z hg;subst hP hw hK;obtain⟨xs,x,hx,ex⟩:=hg;obtain⟨its,rv,p1,_⟩:=I.coK hx;obtain⟨u,hu,ru⟩:=rv.get ex;refine x8 Z p1 (x:=u) (by simpa using hu) λh' Z' J' T' sz k'=>⟨_,rfl,?_⟩;refine wpAny_letOwnedTupleGo_enum Z' λh2 hz2 sb=>?_;obtain⟨old,hz⟩:=Z.hz;have zlt:z<s.heap.objs.size:=Heap.lt_size hz;have Z2:NSt b z j l (i+1) h2:=⟨Z.ne,⟨_,by rw[show((i+1:Nat):Int)=(i:Int)+1 from rfl];exact hz2⟩,J'.at λo q=>sb.extBut _ _ Z.ne.symm q⟩;have T2:=sb.extBut _ _ (Nat.ne_of_gt zlt) T';have kk:∀d o,d ∉ [z,j]->s.heap.get? d=some o->h2.get? d=some o:=λd o hd e=>by
   simp at hd;exact sb.extBut _ _ hd.1 (k' d o hd.1 hd.2 e)
  have fr:H s.heap.objs.size=none:=I.hok.fresh (le_refl _);refine⟨.ref s.heap.objs.size,_,I.turnedNew (t':=s.toks+1) (p:=s.heap.objs.size) (o:=.tup [.int i,x]) hf kk (le_refl _) ?_,rfl,⟨s.heap.objs.size,x,rfl,fr,rfl,λzs hzs=>by rw[I.coK_inj hzs hx];exact ex⟩,Z2,λd hd=>?_⟩
  ·exact⟨by show 2<=sizeLine;decide,[.int i s.toks,u],.cons ⟨_,rfl⟩ (.cons ru .nil),⟨_,T2,rfl,_,rfl⟩⟩
  ·obtain⟨o,eo,_⟩:=Z.live hd;rw[ag (Nat.ne_of_lt (Heap.lt_size eo))];exact(hf d hd).1
 done:=by
  intro X hP hw hK hc i pins s Y H E I hf Z hg;subst hP hw hK;obtain⟨xs,hx,hl⟩:=hg;obtain⟨its,rv,p1,_⟩:=I.coK hx;have e1:=rv.length;refine x9 (I.ok.hd hc) Z p1 (by simp;omega) λh' k'=>⟨rfl,I.turnedL (t':=s.toks) hf λd o hd e=>?_⟩;simp at hd;exact k' d o hd.2 e
 self:=λ_ _ _ _ _ Z h=>by
  obtain⟨old,e⟩:=Z.hz;exact wpAny_pyIter_enum e h
section
variable {X:Cx} {tg a b e:Expr} {es:List Expr} {p pos:Pos}
theorem Ez:bootBuiltins "enumerate"=some (.type "enumerate"):=by decide+kernel
def Ky (K:Frag) (ta:TA):TI:=λY H R=>ta Y H λvs H1=>∃b l xs,vs=[.ref l]/\SqK b K H1 l xs/\R (Itn K b l) H1
theorem EA (hg:Gl X "enumerate") (hm:X.mg "enumerate"=none) (ha:PA X [a] ta) (hs:starEach [a] X.env=[(false,eval a X.env)]):
  PI X (.Tuple elts x1 tpos) (.Call (.Name "enumerate" p) [a] [] pos) (Ky X.K ta):=by
 intro pins s Y H R I h
 refine Call_ (gk I hg hm Ez (PyProof.Rows.callWith_type1 (thn (ha pos pins s Y H _ I h) λus s1 ⟨vs,H1,I1,r1,q1⟩=>?_) (by rw[hs];rfl) (by rfl)))
 obtain⟨b,l,xs,e,hx,q⟩:=q1
 subst e
 obtain⟨u,rfl,ru⟩:=gp r1
 cases ru
 obtain⟨its,rx,p1,_⟩:=I1.coK hx
 refine ya p1 λh' Z sz k=>?_
 obtain⟨old,hz⟩:=Z.hz
 refine wpAny_pyIter_enum hz ?_
 have I2:Inv X pins Y H1 {s1 with heap:=h'}:=I1.kept (t':=s1.toks) k
 refine⟨s1.heap.objs.size+1,[s1.heap.objs.size+1,s1.heap.objs.size],_,_,H1,rfl,I2,yb b l _ _,Z,λd hd=>?_,q⟩
 have hge:s1.heap.objs.size<=d:=by
  simp at hd;rcases hd with rfl|rfl<;>first|exact Nat.le_add_right _ _|exact le_refl _
 exact I1.fpOk hge (I1.hok.fresh hge)
def mT (xs:List D):List D:=xs.zipIdx.map λp=>.tup [.int (p.2:Nat),p.1]
theorem yc {K} {b} (hx:SqK b K Hm l xs) (il:IsL K Hm ds xs):oR K Hm (Itn K b l) (mT ds):=λi H O s hd=>by
 have hx':=hx.mono (s.trans msk_le);refine⟨λd hi=>?_,λhi=>⟨xs,hx',?_⟩⟩
 ·unfold mT at hi;rw[getElem?_map,List.getElem?_zipIdx]at hi;cases e:ds[i]? with
  |none=>rw[e]at hi;cases hi
  |some d1=>
   rw[e]at hi;cases hi;obtain⟨x,ex,ix⟩:=il.get e;refine⟨⟨xs,x,hx',ex⟩,?_⟩;rintro v H3 ⟨q,x',rfl,hq,rfl,kx⟩;have z1:=kx xs hx';rw[ex]at z1;cases z1;have hO:=gy hd hq;refine⟨Same.new hq,q,[.int i,x],rfl,.of (by rw[aK hO,upd_same]),?_⟩;have le:Same (msk O H) (msk O (upd H q (.tup [.int i,x]))):=(Same.new hq).msk;exact⟨.int i,[x],rfl,by show V.int _=V.int _;simp,x,[],rfl,Is.mono (s.trans le) _ _ ix,rfl⟩
 ·have h1:=il.len;unfold mT at hi;rw[length_map,List.length_zipIdx]at hi;omega
def ye:List D->Option (List D):=un1 λc=>(cA c).bind λxs=>some (mT xs)
theorem EB (hg:Gl X "enumerate") (hm:X.mg "enumerate"=none) (ha:PX X [a] fa) (hs:starEach [a] X.env=[(false,eval a X.env)]):
  PJ X (.Tuple elts x1 tpos) (.Call (.Name "enumerate" p) [a] [] pos) (λU=>(fa U).bind ye):=λO U=>(EA hg hm (ha O U) hs).imp λY H R ⟨E,ds,q,k⟩=>by
 obtain⟨as,e1,q⟩:=bind_some q
 refine⟨E,as,e1,λvs H1 s1 il=>?_⟩
 obtain⟨c,rfl,q1⟩:=cF q
 obtain⟨xs,q2,q3⟩:=bind_some q1
 cases q3
 obtain⟨u,rfl,iu⟩:=is1 il
 obtain⟨l1,us,rfl,t1,m1⟩:=jg q2 iu
 obtain⟨b1,t1⟩:=Eh t1
 exact⟨b1,l1,us,rfl,t1.mono msk_le,k _ H1 s1 (yc t1 m1)⟩
end
section
variable {X:Cx} {a b:Expr} {pos:Pos}
def HQ (K:Frag):R2:=λx y H Q=>∃l m xs zs,x=.ref l/\y=.ref m/\SqL K H l xs/\SqL K H m zs/\xs.length+zs.length<=sizeLine/\∀p,H p=none->Q (.ref p) (upd H p (.lst (xs++zs)))
theorem BB:OpR X (binaryOp .Add) (HQ X.K):=by
 intro pins s Y H x y v u Q I rx ry h;obtain⟨l,m,xs,zs,rfl,rfl,h1,h2,hz,q⟩:=h;cases rx;cases ry;obtain⟨its,r1,⟨⟨c1,d1,t1,s1⟩,n1,e1,k1,_,w1⟩,_⟩:=I.list h1;obtain⟨jts,r2,⟨⟨c2,d2,t2,s2⟩,n2,e2,k2,_,w2⟩,_⟩:=I.list h2;simp only at k1 w1 k2 w2;subst k1 w1 k2 w2;have hl1:=r1.length;have hl2:=r2.length;refine concat_meets ⟨_,e1,rfl⟩ ⟨_,e2,rfl⟩ noFill_list_add seq_list_add PySem.F.slot_list_add PySem.F.entry_list_add (PySem.F.args_list_add_2 _ _) (list_addW l m its.toArray jts.toArray n1 n2 d1 d2 s1 s2 (by rw[size_toArray,size_toArray];omega)) ⟨e1,e2,?_⟩;rw[show its.toArray++jts.toArray=(its++jts).toArray by simp];exact⟨.ref _,_,I.lnew (t':=s.toks) (r1.append r2) (by rw[length_append];omega),rfl,q _ I.fresh⟩
def Kz (d e:D):Option (List D):=(qZ d).bind λxs=>(qZ e).bind λys=>b9 (some (xs++ys))
def p8 (fa fb:Vv->Option D):Vv->Option (List D):=λU=>(fa U).bind λx=>(fb U).bind λy=>Kz x y
theorem EC (ha:PP X a fa) (hb:PP X b fb):PF X (.BinOp a .Add b pos) (p8 fa fb):=λO U=>(CP BB (ha O U) (hb O U)).imp λY H Q ⟨E,ds,q,k⟩=>by
 obtain⟨dx,e1,q⟩:=bind_some q;obtain⟨dy,e2,q⟩:=bind_some q;obtain⟨xs,f1,q⟩:=bind_some q;obtain⟨ys,f2,q⟩:=bind_some q;obtain⟨g1,g2⟩:=cX q;cases g1;refine⟨E,dx,e1,λx H1 s1 i1=>⟨E.grow s1,dy,e2,λy H2 s2 i2=>?_⟩⟩;obtain⟨l,us,rfl,t1,l1⟩:=ic f1 (Is.mono s2.msk dx x i1);obtain⟨m,ws,rfl,t2,l2⟩:=ic f2 i2;refine⟨l,m,us,ws,rfl,rfl,msk_le.seq t1,msk_le.seq t2,?_,λp hp=>k p _ H2 (s1.trans s2) hp (l1.app l2)⟩;rw[length_append]at g2;rw[<-l1.len,<-l2.len];exact Nat.le_of_lt g2
end
section
variable {prog:Program} {w:World} {A:Around} {E:Value->Shared->Prop} {s:Shared}
end
section
variable {X:Cx} {a:Expr} {p p2 pos pos2:Pos}
theorem HR:bootBuiltins "list"=some (.type "list"):=by decide+kernel
end
theorem wk (l:Addr) (xs:Array Value) (n:Nat) (m:Addr) (ys:Array Value) (k:Nat) (dd:Option Addr) (sl:Array (Option Value)) (hc0:¬(!xs.isEmpty&&Builtin.List.listTooLong (xs.size+ys.size))=true) (hc1:xs.size<=sizeLine) (hs2:xs.size+ys.size<=sizeLine+1):
  Meets (Builtin.«list.extend» ⟨[.ref l,.ref m],[]⟩) (λ_ R s=>s.heap.get? l=some {cls:=.type "list",dict:=none,data:=.seq xs n,slots:=#[]}/\s.heap.get? m=some {cls:=.type "list",dict:=dd,data:=.seq ys k,slots:=sl}/\R (.ok (.ret Value.none)) {s with heap:=s.heap.update l (Obj.mapSeq λx=>x++ys),toks:=s.toks}):=
 .of_wp λprog w A R s h=>by
  obtain⟨hp,g,d,tk,os⟩:=s;obtain⟨hl,hb,h⟩:=h;have f1:=AutoSeq1.idx_int;have f2:=AutoSeq1.sub_tuple_tuple;have f3:=AutoSeq1.sub_list_list;have f4:=AutoSeq1.sub_tuple_list;have f5:=AutoSeq1.sub_list_tuple;have hz':(xs++ys).size<=sizeLine+1:=by rw[Array.size_append];exact hs2
  wp_walk using (wpAny_updateSeq hl rfl (hz:=hc1) (_hz':=hz')),AutoSeq1.wpAny_loadPart' hl,AutoSeq1.wpAny_loadPart' hb;exact⟨_,rfl,h⟩
def HU (K:Frag):V->List V->Hp->VK->Prop:=λx vs H Q=>∃l m xs zs,x=.ref l/\vs=[.ref m]/\H l=some (.lst xs)/\SqL K H m zs/\xs.length+zs.length<=sizeLine/\Q .non (upd H l (.lst (xs++zs)))
theorem BC:MtM X "list.extend" (HU X.K):=by
 intro pins s Y H x vs v us Q I rx rv h;obtain⟨l,m,xs,zs,rfl,rfl,hH,hB,hz,q⟩:=h;cases rx;obtain⟨u,rfl,ru⟩:=rv.one;cases ru;obtain⟨z,its,n,r,hl,e⟩:=I.lstM hH;obtain⟨jts,r2,⟨⟨c2,d2,t2,s2⟩,n2,e2,k2,_,w2⟩,_⟩:=I.list hB;simp only at k2 w2;subst k2 w2;have hl2:=r2.length;have hsz:its.toArray.size+jts.toArray.size<=sizeLine:=by rw[size_toArray,size_toArray];omega
 have hlong:¬ (!its.toArray.isEmpty&&Builtin.List.listTooLong (its.toArray.size+jts.toArray.size))=true:=by
  rw[xk hsz,Bool.and_false];exact Bool.false_ne_true
 refine call_meets F.slot_list_extend ⟨_,e,rfl⟩ F.entry_list_extend (F.args_list_extend_2 _ _) (wk l its.toArray n m jts.toArray n2 d2 s2 hlong (by rw[size_toArray];omega) (by omega)) ⟨e,e2,?_⟩;refine⟨.non,_,I.lset (its':=its++jts) hH e (by simp) (r.append r2) ?_,rfl,q⟩;rw[length_append];omega
def extS (d:D):Sl:=if lfD d then(.deep,d)else(.sh,d)
def extC:Cat->List D->Cat
 |c,[]=>c
 |c,d::ds=>extC (newCat c (extS d)) ds
section
variable {K:Frag} {B:Bs}
theorem EnvOk.moreS (E:EnvOk K B O Y H U) (h:Is K (msk O H) d v):EnvOk K B O (Y++[some v]) H (U++[some (extS d)]):=by
 unfold extS;split
 ·rename_i f;exact E.more (c:=.deep) (A:=[]) (O':=O) (Same.refl _) (Same.refl _) (λ_ h=>.inl h) (λ_ h=>h) (λ_ h=>(nomatch h)) (λ_ h=>(nomatch h)) List.nodup_nil (λ_ h=>(nomatch h)) (Is.deep d v f h)
 ·exact E.moreSh h
theorem ip (c:Cat) (s:Sl):newCat c s≠.sh:=by unfold newCat;split<;>intro z<;>cases z
theorem yg (h:H a=some o):upd H a o=H:=by
 funext b;by_cases e:b=a
 ·subst e;rw[upd_same,h]
 ·rw[ag e]
theorem EnvOk.extend {i:Nat}:∀ {es:List D} {zs:List V} {O:Addr->Bool} {H:Hp} {U:Ev} {c:Cat} {ds:List D},EnvOk K B O Y H U->U[i]?=some (some (c,.lst ds))->c≠.sh->IsL K (msk O H) es zs->
  ∃a xs,Y[i]?=some (some (.ref a))/\H a=some (.lst xs)/\ds.length=xs.length/\∃O',EnvOk K B O' Y (upd H a (.lst (xs++zs))) (U.set i (some (extC c es,.lst (ds++es))))/\Same (msk O H) (msk O' (upd H a (.lst (xs++zs))))
 |[],zs,O,H,U,c,ds,E,h,hc,l=>by
  have l':zs=[]:=l;subst l';obtain⟨a,xs,e1,e2,e3,_⟩:=E.ownAt h hc;refine⟨a,xs,e1,e2,e3,O,?_,?_⟩
  ·rw[List.append_nil,List.append_nil,yg e2];show EnvOk K B O Y H (U.set i (some (c,.lst ds)));rw[show U.set i (some (c,D.lst ds))=U from by
    obtain⟨hi,e⟩:=List.getElem?_eq_some_iff.mp h;rw[<-e];exact List.set_getElem_self hi]
   exact E
  ·rw[List.append_nil,yg e2];exact Same.refl _
 |d::es,zs,O,H,U,c,ds,E,h,hc,l=>by
  obtain⟨z,r,rfl,hz,l⟩:=l;obtain⟨a,xs,e1,e2,e3,O1,E1,s1⟩:=(E.moreS hz).change gH tB tD h hc;have hi:=(List.getElem?_eq_some_iff.mp h).1;have h2:(U.set i (some (newCat c (extS d),.lst (gH ds (extS d).2))))[i]?=some (some (newCat c (extS d),.lst (gH ds (extS d).2))):=by rw[List.getElem?_set_self hi]
  obtain⟨a',xs',f1,f2,f3,O2,E2,s2⟩:=EnvOk.extend E1 h2 (ip _ _) (IsL.mono s1 _ _ l);rw[e1]at f1;cases f1;rw[upd_same]at f2;cases f2;rw[AE]at E2 s2;rw[List.set_set]at E2;have ed:(extS d).2=d:=by unfold extS;split<;>rfl
  rw[ed]at E2;unfold gH at E2 s1 s2;rw[List.append_assoc,List.append_assoc]at E2;rw[List.append_assoc]at s2;exact⟨a,xs,e1,e2,e3,O2,E2,s1.trans s2⟩
end
section
variable {X:Cx} {e:Expr} {pos:Pos}
def p9 (i:Nat) (R:Vv->Option D):Ev->Option Out:=λU=>(em U i).bind λw=>(R (shv U)).bind λd=>(qZ d).bind λes=>if w.2.length+es.length<big then some (.nx (U.set i (some (extC w.1 es,.lst (w.2++es)))))else none
theorem wl (i:Nat) (h:PP X e R) (hN:X.N[i]?=some x) (hv:Vis X.env.scope x) (hd:(x==("__debug__":Str))=false) (hcd:(x==("__classdict__":Str))=false) (hst:starEach [e] X.env=(false,eval e X.env)::starEach [] X.env) (hline:(apos.endLine==cpos.line)=true):PR X (.Expr (.Call (.Attribute (.Name x px) "extend" apos) [e] [] cpos) pos) (p9 i R):=λB O U=>
 (ib (oI PySem.F.plainAttrs_list PySem.F.slot_list_extend PySem.F.type_list_extend BC (b7 hN hv hd hcd) (bK (h O (shv U)) pa_nil hst) rfl (by rw[hst];rfl) hline hst rfl)).imp λEn Y H ⟨E,o,q,k⟩=>by
 obtain⟨⟨c,ds⟩,q1,q⟩:=bind_some q;obtain⟨d,q2,q⟩:=bind_some q;obtain⟨es,q3,q⟩:=bind_some q;obtain⟨hz,q⟩:=ay q;subst q;obtain⟨h0,hc0⟩:=eY q1;obtain⟨a,xs0,e1,r3,_⟩:=E.ownAt h0 hc0;refine⟨.ref a,e1,.inl ⟨rfl,_,SqL.of r3⟩,E.viewS,d,q2,λv H1 s1 i1=>?_⟩;obtain⟨m,zs,rfl,t,l⟩:=ic q3 i1;obtain⟨a',xs,e2,r4,hl,O2,E2,s2⟩:=(E.grow s1).extend h0 hc0 l;rw[e1]at e2;cases e2;exact⟨a,m,xs,zs,rfl,rfl,r4,msk_le.seq t,by rw[<-hl,<-l.len,gz];exact Nat.le_of_lt hz,k Y _ O2 (s1.msk.trans s2) E2⟩
end
def shO:Option Sl->Option Sl
 |some (_,d)=>some (.sh,d)
 |none=>none
def frz1 (i:Nat) (U:Ev):Ev:=match U[i]? with
 |some x=>U.set i (shO x)
 |none=>U
def frzS:List Nat->Ev->Ev
 |[],U=>U
 |i::is,U=>frzS is (frz1 i U)
section
variable {K:Frag} {B:Bs} {O:Addr->Bool} {Y:St} {H:Hp} {U:Ev}
theorem EnvOk.frz1 (E:EnvOk K B O Y H U) (i:Nat):∃O',EnvOk K B O' Y H (frz1 i U)/\Same (msk O H) (msk O' H):=by
 unfold L2.frz1;cases hx:U[i]? with
 |none=>exact⟨O,E,Same.refl _⟩
 |some x=>
  obtain⟨F,h1,h2,h3,h4⟩:=E.fp;have le:Same (msk O H) (msk (λb=>O b&&!decide (b∈F i)) H):=λb o q=>by
   obtain⟨q1,q2⟩:=aD q;rw[aK (by simp[q1])];exact q2
  refine⟨λb=>O b&&!decide (b∈F i),⟨E.same,E.bdom,λb hb=>?_,λb hb=>E.lis b (by simp at hb;exact hb.1),by rw[List.length_set];exact E.len,λj=>if j=i then[]else F j,λj s q=>?_,λj=>?_,λj k a hj hk=>?_,λj a hj=>?_⟩,le⟩
  ·have n:b ∉ F i:=λz=>E.bdom b hb (h4 i b z).2;simp[E.sub b hb,n]
  ·rcases get_set_some q with⟨e,q'⟩|⟨e,q'⟩
   ·subst e;cases x with
    |none=>cases q'
    |some z=>
     obtain⟨c,d⟩:=z;cases q';obtain⟨v,e1,o1⟩:=h1 j _ hx;refine⟨v,e1,?_⟩;simp only[if_true];exact⟨rfl,o1.is le λa ha=>by simp[ha]⟩
   ·obtain⟨v,e1,o1⟩:=h1 j s q';refine⟨v,e1,?_⟩;simp only[if_neg e];exact o1.frame le λ_ _ _ z=>z
  ·dsimp only;split
   ·exact List.nodup_nil
   ·exact h2 _
  ·by_cases e:j=i
   ·simp[e]at hj
   ·by_cases e2:k=i
    ·simp[e2]at hk
    ·simp only[if_neg e]at hj;simp only[if_neg e2]at hk;exact h3 j k a hj hk
  ·by_cases e:j=i
   ·simp[e]at hj
   ·simp only[if_neg e]at hj;obtain⟨o1,o2⟩:=h4 j a hj;have n:a ∉ F i:=λz=>e (h3 j i a hj z);exact⟨by simp[o1,n],o2⟩
theorem EnvOk.frzS:∀ (is:List Nat) {O:Addr->Bool} {U:Ev},EnvOk K B O Y H U->∃O',EnvOk K B O' Y H (frzS is U)/\Same (msk O H) (msk O' H)
 |[],O,U,E=>⟨O,E,Same.refl _⟩
 |i::is,O,U,E=>by
  obtain⟨O1,E1,s1⟩:=E.frz1 i;obtain⟨O2,E2,s2⟩:=EnvOk.frzS is E1;exact⟨O2,E2,s1.trans s2⟩
end
theorem yh (is:List Nat) (h:PEv X e g):PEv X e (λU=>g (frzS is U)):=λB O U=>(PU.ex λO'=>h B O' (frzS is U)).imp λY H Q ⟨E,s,U',q,k⟩=>by
 obtain⟨O',E',le⟩:=E.frzS is;exact⟨O',E',s,U',q,λv H' O2 s2 E2=>k v H' O2 (le.trans s2) E2⟩
def lsX (f:{α:Type}->List α->α->List α):Prop:=∀ {K:Frag} {M H:Hp} {ds:List D} {xs:List V} {A:List Addr} {d:D} {v:V},DeepL K M H ds xs A->Deep K M H d v []->DeepL K M H (f ds d) (f xs v) A
theorem yi:lsX gH:=λ{K M H ds xs A d v} h q=>by
 have:=DeepL.snoc q h;rw[List.append_nil]at this;exact this
section
variable {K:Frag} {B:Bs} {O:Addr->Bool} {Y:St} {H:Hp} {U:Ev}
end
section
variable {X:Cx} {e:Expr} {pos:Pos}
def jk (U:Ev) (i:Nat):Option (List D):=(em U i).bind λw=>if w.1=.deep then some w.2 else none
end
theorem ED:PFr X (.Dict [] [] pos) (λ_=>some (.dct [] [])):=λU=>PE.pu (pe_dnewK.imp λY H Q ⟨E,d,q,k⟩=>by
 cases q;exactλp hp=>k (.ref p) _ [p] (Same.new hp) ⟨p,[],[],rfl,upd_same,rfl,rfl,rfl,rfl⟩ (by simp) λa ha=>by rw[mem_singleton.mp ha];exact hp) rfl
def qa (ks:List Key) (k:Key):Bool:=ks.any λj=>decide (j=k)
def gJ (ks:List Key) (k:Key):List Key:=if qa ks k=true then ks else ks++[k]
def gK (ks:List Key) (ds:List D) (k:Key) (d:D):List D:=if qa ks k=true then List.zipWith (λj e=>if j=k then d else e) ks ds else ds++[d]
theorem uW (k:Key) (kvs:List (Key×V)):(kvs.any λkv=>decide (kv.1=k))=qa (kvs.map (·.1)) k:=by
 unfold qa;rw[List.any_map];rfl
theorem yj (kvs:List (Key×V)) (k:Key) (v:V):(je kvs k v).map (·.1)=gJ (kvs.map (·.1)) k:=by
 unfold je gJ;rw[uW];by_cases h:qa (kvs.map (·.1)) k=true
 ·rw[if_pos h,if_pos h,List.map_map];apply List.map_congr_left;intro p _;show(if p.1=k then(p.1,v)else p).1=p.1;split<;>rfl
 ·rw[if_neg h,if_neg h,List.map_append];rfl
theorem yk {K} (hd:Is K M d v) (l:IsL K M ds (kvs.map (·.2))):IsL K M (gK (kvs.map (·.1)) ds k d) ((je kvs k v).map (·.2)):=by
 unfold je gK;rw[uW];by_cases h:qa (kvs.map (·.1)) k=true
 ·rw[if_pos h,if_pos h];clear h;induction kvs generalizing ds with
  |nil=>
   have e:ds=[]:=by cases ds with|nil=>rfl|cons a b=>obtain⟨_,_,z,_⟩:=l;cases z
   subst e;exact rfl
  |cons p r ih=>
   cases ds with
   |nil=>cases(show(p::r).map (·.2)=[]from l)
   |cons e ds=>
    obtain⟨x,t,z,h,l⟩:=l;have z':p.2::r.map (·.2)=x::t:=z;cases z';refine⟨_,_,rfl,?_,ih l⟩;show Is K M (if p.1=k then d else e) (if p.1=k then(p.1,v)else p).2;by_cases hk:p.1=k
    ·rw[if_pos hk,if_pos hk];exact hd
    ·rw[if_neg hk,if_neg hk];exact h
 ·rw[if_neg h,if_neg h,List.map_append];exact l.app ⟨v,[],rfl,hd,rfl⟩
theorem ym (hd:lfD d=true):∀ {ds:List D},lfL ds=true->lfL (gK ks ds k d)=true:=λ{ds} h=>by
 unfold gK;split
 ·rename_i hn;clear hn;induction ks generalizing ds with
  |nil=>rfl
  |cons j ks ih=>
   cases ds with
   |nil=>rfl
   |cons e ds=>
    have h':(lfD e&&lfL ds)=true:=h;rw[and_eq_true]at h';show(lfD (if j=k then d else e)&&lfL (List.zipWith _ ks ds))=true;rw[ih h'.2,Bool.and_true];split
    ·exact hd
    ·exact h'.1
 ·rename_i hn;clear hn;induction ds with
  |nil=>show(lfD d&&true)=true;rw[hd];rfl
  |cons e ds ih=>
   have h':(lfD e&&lfL ds)=true:=h;rw[and_eq_true]at h';show(lfD e&&lfL (ds++[d]))=true;rw[h'.1,ih h'.2];rfl
def wm (U:Ev) (i:Nat):Option (List Key×List D):=(eX U i).bind λs=>match s with
 |(.deep,.dct ks ds)=>some (ks,ds)
 |_=>none
theorem oV (h:wm U i=some w):U[i]?=some (some (.deep,.dct w.1 w.2)):=by
 obtain⟨⟨c,d⟩,h1,h2⟩:=bind_some h;have h2':(match(c,d)with|(.deep,.dct ks ds)=>some (ks,ds)|_=>none)=some w:=h2;split at h2'
 ·rename_i ks ds e;cases h2';cases e;exact dO h1
 ·cases h2'
section
variable {K:Frag} {B:Bs} {O:Addr->Bool} {Y:St} {H:Hp} {U:Ev}
theorem EnvOk.dctAt (E:EnvOk K B O Y H U) {i:Nat} (h:U[i]?=some (some (.deep,.dct ks ds))):∃a kvs,Y[i]?=some (some (.ref a))/\H a=some (.dK kvs)/\kvs.map (·.1)=ks/\O a=true/\B.H a=none:=by
 obtain⟨F,h1,h2,h3,h4⟩:=E.fp;obtain⟨v,e,a,kvs,A',z1,z2,z3,z4,l⟩:=h1 i _ h;exact⟨a,kvs,by rw[e,z1],z2,z3,h4 i a (by rw[z4];exact mem_cons_self)⟩
theorem EnvOk.dput (E:EnvOk K B O Y H U) {i:Nat} (h:U[i]?=some (some (.deep,.dct ks ds))) (lf:lfL ds=true) (ld:lfD d=true) (hv:Is K (msk O H) d v) (k:Key):
  ∃a kvs,Y[i]?=some (some (.ref a))/\H a=some (.dK kvs)/\kvs.map (·.1)=ks/\EnvOk K B O Y (upd H a (.dK (je kvs k v))) (U.set i (some (.deep,.dct (gJ ks k) (gK ks ds k d))))/\Same (msk O H) (msk O (upd H a (.dK (je kvs k v)))):=by
 obtain⟨F,h1,h2,h3,h4⟩:=E.fp
 obtain⟨v0,e0,a,kvs,A',z1,z2,z3,z4,l⟩:=h1 i _ h
 subst z1
 have hA:A'=[]:=DeepL.lf ds _ A' lf l
 subst hA
 have haF:a∈F i:=by rw[z4];exact mem_cons_self
 obtain⟨oa,ba⟩:=h4 i a haF
 have me:msk O (upd H a (.dK (je kvs k v)))=msk O H:=fK oa
 have le:Same (msk O H) (msk O (upd H a (.dK (je kvs k v)))):=by rw[me];exact Same.refl _
 refine⟨a,kvs,e0,z2,z3,⟨λb o q=>?_,E.bdom,E.sub,λb hb=>?_,by rw[List.length_set];exact E.len,F,λj s q=>?_,h2,h3,h4⟩,le⟩
 ·rw[ag (ak q ba)];exact E.same b o q
 ·by_cases e:b=a
  ·subst e;exact .inr (.inr ⟨_,upd_same⟩)
  ·rw[ag e];exact E.lis b hb
 ·rcases get_set_some q with⟨e,q'⟩|⟨e,q'⟩
  ·cases q';subst e;refine⟨.ref a,e0,a,_,[],rfl,upd_same,by rw[yj,z3],z4,?_⟩;rw[me];subst z3;have il:IsL K (msk O H) ds (kvs.map (·.2)):=DeepL.is (NL.of (Same.refl _)) ds _ [] (λ_ h=>(nomatch h)) l;exact IsL.deep _ _ (ym ld lf) (yk hv il)
  ·obtain⟨w,e1,o1⟩:=h1 j s q';refine⟨w,e1,o1.frame le λb hb o z=>?_⟩;have:b≠a:=λz2=>e (h3 j i a (z2▸hb) haF);rw[ag this];exact z
end
section
variable {X:Cx} {e:Expr} {pos:Pos}
def HV:DM:=λo i v H Q=>∃p kvs k,o=.ref p/\i=kV k/\H p=some (.dK kvs)/\kvs.length<sizeLine/\Q (upd H p (.dK (je kvs k v)))
theorem yn:DN X HV:=by
 intro pins s Y H o i v ov iv u Q I ro ri rv h;obtain⟨p,kvs,k,rfl,rfl,hp,hl,q⟩:=h;cases ro;obtain⟨z,hd,vs,rel,dd⟩:=GY I.hok hp;have hz:vs.length<=sizeLine:=by rw[<-rel.length];exact z
 have hl':(je kvs k v).length<=sizeLine:=by have:=qX kvs k v;omega
 refine wpAny_setItem_pairs (hsz:=hz) (CW ri) dd λh' dd' hs=>⟨_,?_,q⟩;have he:∃q,h'.get? p=some q:=let⟨q,_,_,hq,_⟩:=dd';⟨q,hq⟩;exact AY I (by rw[hp];exact True.intro) hs he (DZ hl' hd (rel.put k rv) dd')
def yo (i:Nat) (fk:Vv->Option D) (R:Vv->Option D):Ev->Option Out:=λU=>(wm U i).bind λw=>(lfO (R (vw U))).bind λd=>(fk (vw U)).bind λy=>(A5 y).bind λk=>if lfL w.2=true/\w.1.length+1<big then some (.nx (U.set i (some (.deep,.dct (gJ w.1 k) (gK w.1 w.2 k d)))))else none
theorem EE (i:Nat) (h:PP X e R) (hk:PP X ik fk) (hN:X.N[i]?=some x) (hv:Vis X.env.scope x) (hd:(x==("__debug__":Str))=false) (hcd:(x==("__classdict__":Str))=false) (ha:∀v,assign (.Subscript (.Name x px) ik spos) X.env v=(do
   let ov<-holding [v] (eval (.Name x px) X.env)
   let iv<-holding [v,ov] (eval ik X.env)
   standAt spos
   holding [v,ov,iv] (setItem ov iv v)
   release [v,ov,iv] [])) (hs:swapsWithSole [.Subscript (.Name x px) ik spos] e pos.line X.env=pure false) (hw:swappedStores [.Subscript (.Name x px) ik spos] e X.env=pure none) (h1:(assignEach [.Subscript (.Name x px) ik spos] X.env).map (·.2)=[assign (.Subscript (.Name x px) ik spos) X.env]):PR X (.Assign [.Subscript (.Name x px) ik spos] e pos) (yo i fk R):=λB O U=>
 (pG (h noO (vw U)) (wN (b7 hN hv hd hcd) (hk noO (vw U)) yn ha) hs hw h1).imp λEn Y H ⟨E,o,q,k⟩=>by
 obtain⟨⟨ks,ds⟩,q1,q⟩:=bind_some q
 obtain⟨d,q2,q⟩:=bind_some q
 obtain⟨y,q3,q⟩:=bind_some q
 obtain⟨j,q4,q⟩:=bind_some q
 obtain⟨⟨hl,hz⟩,q⟩:=ay q
 subst q
 obtain⟨d',p5,p6⟩:=bind_some q2
 obtain⟨ld,p7⟩:=ay p6
 subst p7
 have h0:=oV q1
 refine⟨E.view,d',p5,λv H1 s1 iv=>?_⟩
 have E1:=E.grow s1
 obtain⟨a,kvs,e1,e2,e3,_⟩:=E1.dctAt h0
 refine⟨.ref a,e1,E1.view,y,q3,λyv H2 s2 iy=>?_⟩
 have E2:=E1.grow s2
 have iv':Is X.K (msk O H2) d' v:=Is.nl (by have:=E2.nl;rw[dL]at*;exact(NL.of s2).trans this) d' v ld iv
 obtain⟨a',kvs',f1,f2,f3,f4,f5⟩:=E2.dput h0 hl ld iv' j
 rw[e1]at f1
 cases f1
 exact⟨a,kvs',j,rfl,uM q4 iy,f2,by
  have:kvs'.length=ks.length:=by have:=congrArg List.length f3;rwa [length_map]at this
  have hz:ks.length+1<big:=hz;rw[gz];omega,k Y _ O (s1.msk.trans (s2.msk.trans f5)) f4⟩
end
section
variable {X:Cx} {a:Expr} {p pos:Pos}
theorem yp:bootBuiltins "sorted"=some (.builtin "sorted"):=by decide+kernel
def srtZ (ns:List Int):List Int:=ns.mergeSort (λa b=>decide (a<=b))
theorem yq (h1:ms.Perm ns) (h2:ms.Pairwise (·<=·)):ms=srtZ ns:=by
 refine List.Perm.eq_of_pairwise (le:=λa b=>a<=b) (λa b _ _ h h'=>Int.le_antisymm h h') h2 ?_ (h1.trans (List.mergeSort_perm _ _).symm);have:=List.pairwise_mergeSort (le:=λa b:Int=>decide (a<=b)) (λa b c h1 h2=>decide_eq_true (Int.le_trans (of_decide_eq_true h1) (of_decide_eq_true h2))) (λa b=>by simp;omega) ns;exact this.imp λh=>of_decide_eq_true h
theorem uX:∀ {ns:List Int} {us:List Value},Vals (ns.map V.int) us->IntsAre us ns
 |[],_,.nil=>.nil
 |n::ns,_,.cons ⟨t,e⟩ r=>by subst e;exact .cons n t (uX r)
theorem oW:∀ {us:List Value} {ns:List Int},IntsAre us ns->Vals (ns.map V.int) us
 |_,_,.nil=>.nil
 |_,_,.cons n t r=>.cons ⟨t,rfl⟩ (oW r)
def HW (K:Frag):List V->Hp->VK->Prop:=λvs H Q=>∃l ns,vs=[.ref l]/\SqL K H l (ns.map V.int)/\ns.length<64/\∀q,H q=none->Q (.ref q) (upd H q (.lst ((srtZ ns).map V.int)))
theorem wn:dU X (.builtin "sorted") (HW X.K):=by
 intro pins s Y H xs us Q I r h;obtain⟨l,ns,rfl,hx,h64,q⟩:=h;obtain⟨u,rfl,ru⟩:=gp r;cases ru;obtain⟨its,rv,pl,hz⟩:=I.list hx;have hl:=rv.length;rw[length_map]at hl;refine PyProof.Rows.sorted_ints pl.isList (uX rv) (by omega) λout ms h1 h2 h3=>?_;obtain⟨e,he⟩:=sortedAll_at s.heap its out;have z:=yq h2 h3;subst z;have fr:H (s.heap.objs.size+1)=none:=I.hok.fresh (Nat.le_succ _);refine⟨.ref _,_,I.laid (t':=s.toks) (λb o q=>sortedAll_old q) (Nat.le_succ _) (o:=.lst ((srtZ ns).map V.int)) ⟨?_,out.toList,e,oW h1,by simpa using he⟩,rfl,q _ fr⟩;rw[length_map,h2.length_eq];have:(64:Nat)<=sizeLine:=by decide
 omega
def kX:List D->Option (List D):=un1 λd=>(qZ d).bind λds=>(bE ds).bind λns=>if ns.length<64 then some ((srtZ ns).map D.int)else none
theorem mU {K}:∀ (ns:List Int),IsL K H (ns.map D.int) (ns.map V.int)
 |[]=>rfl
 |n::ns=>⟨_,_,rfl,rfl,mU ns⟩
theorem BD (hg:Gl X "sorted") (hm:X.mg "sorted"=none) (ha:PX X [a] fa) (hs:starEach [a] X.env=[(false,eval a X.env)]):
  PF X (.Call (.Name "sorted" p) [a] [] pos) (λU=>(fa U).bind kX):=λO U=>(gr wn hg hm yp (ha O U) (by decide) (by decide) (by rw[hs];rfl) rfl).imp λY H Q ⟨E,ds,q,k⟩=>by
 obtain⟨as,e1,q⟩:=bind_some q
 refine⟨E,as,e1,λvs H1 s1 il=>?_⟩
 obtain⟨c,rfl,q2⟩:=cF q
 obtain⟨xs,q3,q4⟩:=bind_some q2
 obtain⟨ns,q5,q6⟩:=bind_some q4
 obtain⟨h64,q7⟩:=ay q6
 subst q7
 obtain⟨v,rfl,h⟩:=is1 il
 obtain⟨l,ys,rfl,t,l2⟩:=ic q3 h
 rw[ce q5 l2]at t
 exact⟨l,ns,rfl,msk_le.seq t,h64,λb hb=>k b _ H1 s1 hb (mU _)⟩
end
def Stl (M M1:Hp):Prop:=∀b u,M b=some u->M1 b=some u\/∃o kvs,u=.dK kvs/\M1 b=some (.frz o u)
theorem Stl.rd (s:Stl M M1) (h:Rd M a u):Rd M1 a u:=by
 rcases h with h|⟨o,h⟩
 ·rcases s _ _ h with h|⟨o,_,_,h⟩
  ·exact .inl h
  ·exact .inr ⟨o,h⟩
 ·rcases s _ _ h with h|⟨_,_,z,_⟩
  ·exact .inr ⟨o,h⟩
  ·cases z
theorem Stl.sq {K} (s:Stl M M1) (h:SqL K M a xs):SqL K M1 a xs:=h.imp s.rd id
theorem Stl.sqT {K} (s:Stl M M1) (h:SqT K M a xs):SqT K M1 a xs:=h.imp s.rd id
mutual
theorem Is.stl {K:Frag} {H H':Hp} (s:Stl H H'):∀ (d:D) (v:V),Is K H d v->Is K H' d v
 |.non,_,h=>h
 |.bl _,_,h=>h
 |.int _,_,h=>h
 |.str _,_,h=>h
 |.ty _,_,h=>h
 |.adr _,_,h=>h
 |.tup ds,_,⟨a,xs,e,q,l⟩=>⟨a,xs,e,s.sqT q,IsL.stl s ds xs l⟩
 |.lst ds,_,⟨a,xs,e,q,l⟩=>⟨a,xs,e,s.sq q,IsL.stl s ds xs l⟩
 |.obj _ _ ds,_,⟨a,Ca,dx,fs,e,c,q,z,l⟩=>⟨a,Ca,dx,fs,e,c,(s _ _ q).elim id (λ⟨_,_,z,_⟩=>nomatch z),z,IsL.stl s ds _ l⟩
 |.dct _ ds,_,⟨a,kvs,e,q,z,l⟩=>⟨a,kvs,e,s.rd q,z,IsL.stl s ds _ l⟩
theorem IsL.stl {K:Frag} {H H':Hp} (s:Stl H H'):∀ (ds:List D) (xs:List V),IsL K H ds xs->IsL K H' ds xs
 |[],_,h=>h
 |d::ds,_,⟨x,r,e,h,l⟩=>⟨x,r,e,Is.stl s d x h,IsL.stl s ds r l⟩
end
theorem uY (o:Obj) (e:H a=some (.dK kvs)):Stl H (upd H a (.frz o (.dK kvs))):=λb u h=>by
 by_cases hb:b=a
 ·subst hb;rw[e]at h;cases h;exact .inr ⟨o,kvs,rfl,upd_same⟩
 ·exact .inl (by rw[ag hb];exact h)
theorem uZ (s:Stl H H1):Stl (msk O H) (msk O H1):=λb u h=>by
 obtain⟨o1,h⟩:=aD h;rw[aK o1];exact s b u h
section
variable {X:Cx} {pins:List (Addr×Obj)} {Y:St} {H:Hp} {s:Shared} {a:Addr} {u w:HO} {kvs:List (Key×V)}
def DkO (kvs:List (Key×V)) (u:HO):Prop:=u=.dK kvs\/∃o,u=.frz o (.dK kvs)
def HX (H₀:Hp) (a:Addr):Prop:=∀o,H₀ a=some o->¬Still o/\(∀xs,o≠.tup xs)/\∀ps,o≠.tbl ps
theorem Inv.noSt (I:Inv X pins Y H s) (e:H a=some (.dK kvs)):HX X.H₀ a:=λo h=>by
 refine⟨λz=>?_,λxs z=>?_,λps z=>?_⟩
 ·rw[I.base.frzs a o z h]at e;cases e;exact z
 ·subst z;rw[I.base.tups a xs h]at e;cases e
 ·subst z;obtain⟨m,q⟩:=I.base.tbls a ps h;rw[q]at e;cases e
theorem Inv.reset (I:Inv X pins Y H s) (e:H a=some u) (hu:DkO kvs u) (h0:HX X.H₀ a) (new:ObjOk X.prog X.w (upd H a w) s.heap a w):Inv X pins Y (upd H a w) s:=by
 have ne:∀b,H b=none->b≠a:=λb h z=>by subst z;rw[e]at h;cases h
 have n1:∀b xs,H b=some (.tup xs)->b≠a:=λb xs h z=>by
  subst z;rw[e]at h;cases h;rcases hu with z|⟨_,z⟩<;>cases z
 have n2:∀b y,H b=some (.own y)->b≠a:=λb y h z=>by
  subst z;rw[e]at h;cases h;rcases hu with z|⟨_,z⟩<;>cases z
 have n3:∀b o y,H b=some (.frz o (.own y))->b≠a:=λb o y h z=>by
  subst z;rw[e]at h;cases h;rcases hu with z|⟨_,z⟩<;>cases z
 refine⟨I.ok,I.os,I.bare,⟨I.base.keep,I.base.slot,λb o q n x=>?_,I.base.there,λb xs q=>?_,λb o st q=>?_,λb ps q=>?_⟩,I.loc,I.cell,?_,λx c q=>?_,λp hp=>?_,λb o q=>?_,I.len⟩
 ·have:=I.base.free b o q n x;rw[ag (ne b this)];exact this
 ·by_cases z:b=a
  ·subst z;exact absurd rfl ((h0 _ q).2.1 xs)
  ·rw[ag z];exact I.base.tups b xs q
 ·by_cases z:b=a
  ·subst z;exact absurd st (h0 _ q).1
  ·rw[ag z];exact I.base.frzs b o st q
 ·by_cases z:b=a
  ·subst z;exact absurd rfl ((h0 _ q).2.2 ps)
  ·rw[ag z];exact I.base.tbls b ps q
 ·rw[ag (ne _ I.free)];exact I.free
 ·rw[ag (ne _ (I.freeC x c q))];exact I.freeC x c q
 ·obtain⟨p1,p2,p3⟩:=I.pin p hp;exact⟨p1,by rw[ag (ne _ p2)];exact p2,p3⟩
 ·by_cases z:b=a
  ·subst z;rw[upd_same]at q;cases q;exact new
  ·rw[ag z]at q;refine(I.hok b o q).stay (λ_ _ _ r=>r) (λc r=>?_) (λc xs r=>?_) λc o' y r=>?_
   ·rw[ag (n2 c b r)];exact r
   ·rw[ag (n1 c xs r)];exact r
   ·rw[ag (n3 c o' y r)];exact r
end
def ly:Key->D
 |.inl n=>.int n
 |.inr x=>.str x
theorem EF {K} (k:Key):Is K M (ly k) (kV k):=by cases k<;>rfl
def Itk (a:Addr) (o:Obj) (kvs:List (Key×V)):It:=
 ⟨λi H=>H a=some (.frz o (.dK kvs))/\i<kvs.length,λi H x H'=>H'=H/\∃p,kvs[i]?=some p/\x=kV p.1,λi H=>H a=some (.frz o (.dK kvs))/\kvs.length<=i⟩
theorem C4 (ok:HOk P w H h) (e:H a=some (.frz o (.dK kvs))) (hd:o.data=.dict es ep):∃vs,KV kvs vs/\h.DictAt (bY P w) a vs ep:=by
 obtain⟨e1,_,_,vs,rel,o',es',ep',e2,x1,x2,x3⟩:=ok a _ e;rw[e1]at e2;cases e2;rw[hd]at x2;cases x2;exact⟨vs,rel,o,es,e1,x1,hd,x3⟩
theorem KV.at (r:KV kvs vs):∀ {i:Nat} {p:Key×V},kvs[i]?=some p->∃u,vs[i]?=some (p.1,u):=by
 induction r with
 |nil=>intro i p h;cases i<;>cases h
 |@cons a b _ _ h _ ih=>
  intro i p q;cases i with
  |zero=>cases q;exact⟨b.2,by show some b=some (a.1,b.2);rw[h.1]⟩
  |succ i=>exact ih q
theorem BE (h:(bY P w).is k v=true):RelV (kV k) v:=by
 rcases keyIs_shape (show keyIs k v=true from h)with⟨i,t,rfl,rfl⟩|⟨x,t,rfl,rfl⟩
 ·exact⟨t,rfl⟩
 ·exact⟨t,rfl⟩
theorem BF {P:Program} {w:World} {K:Frag} {tg:Expr} (a it:Addr) {o:Obj} {kvs:List (Key×V)} {es:Array DictEntry} {ep:Nat} (hd:o.data=.dict es ep):Turn P w K tg (Itk a o kvs) [it] it (λi h=>h.IsKeyIter it a i kvs.length ep) where
 mem:=by simp
 obj:=λi h st b hb=>by
  have e:b=it:=by simpa using hb
  subst e;obtain⟨o,e,c,d⟩:=st;exact⟨o,e,λv z=>by rw[d]at z;cases z⟩
 keep:=λi h h' st k=>by
  obtain⟨o,e,r⟩:=st;exact⟨o,k it (by simp) o e,r⟩
 item:=by
  intro X hP hw hK hc i pins s Y H E I hf st hg;subst hP hw hK;obtain⟨hg,hi⟩:=hg;obtain⟨vs,rel,da⟩:=C4 I.hok hg hd;obtain⟨u,hu⟩:=rel.at (getElem?_eq_getElem hi);obtain⟨f0,f1,f2,f3,f4,f5⟩:=hf it (by simp);rw[rel.length]at st;refine wpAny_pyNext_dict_item st da hu λkey h' hk st' sb=>?_;have I1:Inv X pins Y H {s with heap:=h'}:=I.turned (t':=s.toks) (λb o hb e=>(sb.2 b hb).trans e) f0 f1 f3 f4 f5;obtain⟨o2,e,c,d⟩:=id st';exact⟨key,rfl,uE (s:={s with heap:=h'}) e c d (by decide) ⟨_,H,I1,BE hk,⟨rfl,_,getElem?_eq_getElem hi,rfl⟩,by rw[rel.length];exact st',λb hb=>(hf b hb).1⟩⟩
 done:=by
  intro X hP hw hK hc i pins s Y H E I hf st hg;subst hP hw hK;obtain⟨hg,hi⟩:=hg;obtain⟨vs,rel,da⟩:=C4 I.hok hg hd;obtain⟨f0,f1,f2,f3,f4,f5⟩:=hf it (by simp);have hl:=rel.length;rw[hl]at st;exact wpAny_pyNext_dict_end (I.ok.hd hc) st da (List.getElem?_eq_none (by omega)) λh' eb=>⟨rfl,I.turned (t':=s.toks) (λb o hb e=>eb b o hb e) f0 f1 f3 f4 f5⟩
 self:=λA i s Q E st h=>wpAny_pyIter_keyiter st h
theorem u3 {K} (h:Hm a=some (.frz o (.dK kvs))):oR K Hm (Itk a o kvs) ((kvs.map (·.1)).map ly):=λi H O s hd=>by
 have h':H a=some (.frz o (.dK kvs)):=(aD (s _ _ h)).2;refine⟨λd hi=>?_,λhi=>⟨h',by rw[length_map,length_map]at hi;exact hi⟩⟩;rw[List.map_map,getElem?_map]at hi;cases e:kvs[i]? with
 |none=>rw[e]at hi;cases hi
 |some p=>
  rw[e]at hi;cases hi;refine⟨⟨h',(List.getElem?_eq_some_iff.mp e).1⟩,λy H3 ⟨z,q,hq,hy⟩=>?_⟩;subst z hy;rw[e]at hq;cases hq;exact⟨Same.refl _,EF _⟩
def iDk (i:Nat):TI:=λY H R=>∃a kvs,Y[i]?=some (some (.ref a))/\Rd H a (.dK kvs)/\∀o H1,(H a=some (.dK kvs)/\H1=upd H a (.frz o (.dK kvs)))\/(H a=some (.frz o (.dK kvs))/\H1=H)->R (Itk a o kvs) H1
section
variable {X:Cx} {tg:Expr} {i:Nat} {x:Str} {px pos:Pos}
theorem C5 (hN:X.N[i]?=some x) (hv:Vis X.env.scope x) (hd:(x==("__debug__":Str))=false) (hcd:(x==("__classdict__":Str))=false):PI X tg (.Name x px) (iDk i):=by
 intro pins s Y H R I ⟨a,kvs,hY,hR,q⟩;refine thn (b7 hN hv hd hcd pins s Y H (λv H1=>v=.ref a/\H1=H) I ⟨_,hY,rfl,rfl⟩) λv s1 ⟨x1,H1,I1,r1,e1,e2⟩=>?_;subst e1 e2;cases r1;obtain⟨z,hsm,vs,rel,o,es,ep,e,x1,x2,x3⟩:=oM I1.hok hR;have key:∃H2,Inv X pins Y H2 s1/\H2 a=some (.frz o (.dK kvs))/\R (Itk a o kvs) H2:=by
  rcases hR with hR|⟨o',hR⟩
  ·exact⟨_,I1.reset hR (.inl rfl) (I1.noSt hR) (w:=.frz o (.dK kvs)) ⟨e,z,hsm,vs,rel,o,es,ep,e,x1,x2,x3⟩,upd_same,q o _ (.inl ⟨hR,rfl⟩)⟩
  ·have:=(I1.hok a _ hR).1;rw[e]at this;cases this;exact⟨_,I1,hR,q o _ (.inr ⟨hR,rfl⟩)⟩
 obtain⟨H2,I2,h2,q2⟩:=key;refine wpAny_pyIter_dict (knd:=bY X.prog X.w) hsm ⟨o,es,e,x1,x2,x3⟩ ?_;refine⟨s1.heap.objs.size,[s1.heap.objs.size],_,_,H2,rfl,I2.kept (t':=s1.toks) λb o e=>Heap.get?_push_of_some _ e,BF a _ x2,⟨_,Heap.get?_push_size _ rfl,rfl,by rw[rel.length];rfl⟩,λb hb=>?_,q2⟩;have e:b=s1.heap.objs.size:=by simpa using hb
 subst e;exact I2.fpOk (le_refl _) (I2.hok.fresh (le_refl _))
end
section
variable {K:Frag} {B:Bs} {O:Addr->Bool} {Y:St} {H:Hp} {U:Ev}
theorem EnvOk.still (E:EnvOk K B O Y H U) (o:Obj) (e:H a=some (.dK kvs)) (oa:O a=false) (ba:B.H a=none):EnvOk K B O Y (upd H a (.frz o (.dK kvs))) U:=by
 obtain⟨F,h1,h2,h3,h4⟩:=E.fp;have st:Stl (msk O H) (msk O (upd H a (.frz o (.dK kvs)))):=uZ (uY o e);refine⟨λb u q=>?_,E.bdom,E.sub,λb hb=>?_,E.len,F,λi s q=>?_,h2,h3,h4⟩
 ·rw[ag (ak q ba)];exact E.same b u q
 ·rw[ag (λz=>by subst z;rw[oa]at hb;cases hb)];exact E.lis b hb
 ·obtain⟨v,e1,o1⟩:=h1 i s q;have ne:∀b∈F i,b≠a:=λb hb z=>by subst z;rw[(h4 i b hb).1]at oa;cases oa
  refine⟨v,e1,?_⟩;obtain⟨c,d⟩:=s;cases c with
  |sh=>exact⟨o1.1,Is.stl st _ _ o1.2⟩
  |top=>
   obtain⟨p,ds,xs,z1,z2,z3,z4,l⟩:=o1;exact⟨p,ds,xs,z1,z2,z3,by rw[ag (ne p (by rw[z3];exact mem_cons_self))];exact z4,IsL.stl st _ _ l⟩
  |deep=>
   refine Deep.frame (λb u q nh=>?_) _ _ _ (λb hb u q=>by rw[ag (ne b hb)];exact q) o1;obtain⟨ob,q⟩:=aD q;rw[aK ob];by_cases z:b=a
   ·subst z;rw[e]at q;cases q;exact absurd (.inr (.inr ⟨_,rfl⟩)) nh
   ·rw[ag z];exact q
end
def yt (i:Nat) (g:D->Ev->Option Ev) (F:Ev->Option Out):Ev->Option Out:=λU=>(wm U i).bind λw=>mR (lu g F) (w.1.map ly) (frzS [i] U)
theorem EG {U:Ev} {i:Nat} (h:U[i]?=some (some (c,d))):(frzS [i] U)[i]?=some (some (.sh,d)):=by
 show(frz1 i U)[i]?=_;unfold frz1;rw[h];have:=(List.getElem?_eq_some_iff.mp h).1;exact List.getElem?_set_self this
section
variable {X:Cx} {tg:Expr} {i:Nat} {x:Str} {px pos:Pos}
theorem BG (hp:PassesOwn (model X.prog X.w) X.A X.env X.xe) (hc:X.calm=true) (hN:X.N[i]?=some x) (hv:Vis X.env.scope x) (hd:(x==("__debug__":Str))=false) (hcd:(x==("__classdict__":Str))=false) (hg:PGE X tg g) (hb:PRs X body F) (hs:∀y,foldedSetIterable (.Name x px) X.env y=pure y):PR X (.For tg (.Name x px) body [] pos) (yt i g F):=λB O U=>
 (sL hp hc (C5 hN hv hd hcd) (PG.ex λz:(Addr->Bool)×Ev×D=>hg B z.1 z.2.1 z.2.2) (PSs.ex λz:(Addr->Bool)×Ev=>hb B z.1 z.2) hs).imp λEn Y H ⟨E,out,q,k⟩=>by
 obtain⟨⟨ks,ds⟩,q1,q⟩:=bind_some q;have h0:=oV q1;obtain⟨a,kvs,e1,e2,e3,oa,ba⟩:=E.dctAt h0;obtain⟨O',E',le⟩:=E.frzS [i];obtain⟨F',h1,_⟩:=E'.fp;obtain⟨v,z1,z2,a',kvs',z3,z4,_⟩:=h1 i _ (EG h0);rw[e1]at z1;cases z1;cases z3;have oa':O' a=false:=by
  rcases z4 with z|⟨_,z⟩
  ·exact(aD z).1
  ·exact(aD z).1
 refine⟨a,kvs,e1,.inl e2,λo H1 hH=>?_⟩;rcases hH with⟨_,rfl⟩|⟨z,_⟩
 ·have E1:=E'.still o e2 oa' ba;have le1:Same (msk O H) (msk O' (upd H a (.frz o (.dK kvs)))):=λb u q=>by
   have nb:b≠a:=λz=>by subst z;rw[(aD q).1]at oa;cases oa
   obtain⟨ob,q⟩:=aD (le b u q);rw[aK ob,ag nb];exact q
  subst e3;obtain⟨_,ds',e',kk⟩:=pW (o:=some ((kvs.map (·.1)).map ly)) (Uv:=shv (frzS [i] U)) (g:=g) (F:=F) E1 E1.viewS (show((some ((kvs.map (·.1)).map ly)).bind λds=>mR (lu g F) ds (frzS [i] U))=some out from q) (k.mono le1);cases e';exact kk _ _ (Same.refl _) (u3 (by rw[aK oa',upd_same]))
 ·rw[e2]at z;cases z
end
def HY (U:Vv) (i:Nat):Option (List Key):=(eJ U i).bind λd=>match d with
 |.dct ks _=>some ks
 |_=>none
theorem wo (h:HY U i=some ks):∃ds,U[i]?=some (some (.dct ks ds)):=by
 obtain⟨d,h1,h2⟩:=bind_some h;cases d with
 |dct ks' ds=>cases h2;exact⟨ds,eU h1⟩
 |_=>cases h2
def oX (i:Nat) (ks:List Nat) (g:D->Vv->Option Vv) (ft:Vv->Option Bool) (fe:Vv->Option D):Vv->Option (List Int):=λU=>(HY U i).bind λkk=>(aw ks (λ_=>some (kk.map ly)) g ft fe U).bind bE
def rE (i:Nat) (ks:List Nat) (g:D->Vv->Option Vv) (ft:Vv->Option Bool) (fe:Vv->Option D):Vv->Option (List D):=λU=>(oX i ks g ft fe U).map λns=>ns.map D.int
theorem qb {K}:∀ns:List Int,IsL K M (ns.map D.int) (ns.map V.int)
 |[]=>rfl
 |n::ns=>⟨_,_,rfl,rfl,qb ns⟩
section
variable {X:Cx} {tg elt:Expr} {i:Nat} {x:Str} {px pos:Pos}
theorem VE.still {K} (E:VE K O Y H U) (o:Obj) (e:H a=some (.dK kvs)) (oa:O a=false):VE K O Y (upd H a (.frz o (.dK kvs))) U:=
 ⟨λb hb=>by rw[ag (λz=>by subst z;rw[oa]at hb;cases hb)];exact E.lis b hb,E.len,λi d q=>by
  obtain⟨v,e1,iv⟩:=E.sh i d q;exact⟨v,e1,Is.stl (uZ (uY o e)) _ _ iv⟩⟩
theorem yu (hc:X.calm=true) (S:CSc X scope ks) (hN:X.N[i]?=some x) (hv:Vis X.env.scope x) (hd:(x==("__debug__":Str))=false) (hcd:(x==("__classdict__":Str))=false) (hg:∀C s H fp,PGD (cxC X scope C s H fp) ks tg g) (ht:∀C s H fp,PQs (cxC X scope C s H fp) ifs ft) (he:∀C s H fp,PP (cxC X scope C s H fp) elt fe) (hs:∀y,foldedSetIterable (.Name x px) X.env y=pure y):
  PF X (.ListComp elt [⟨tg,.Name x px,ifs,0⟩] scope pos) (rE i ks g ft fe):=by
 intro O U pins s Y H Q I ⟨E,rs,q,k⟩
 cases hz:oX i ks g ft fe U with
 |none=>rw[show rE i ks g ft fe U=(oX i ks g ft fe U).map _ from rfl,hz]at q;cases q
 |some ns=>
  rw[show rE i ks g ft fe U=(oX i ks g ft fe U).map _ from rfl,hz]at q;cases q;obtain⟨kk,q1,hz⟩:=bind_some hz;obtain⟨rs,q2,q3⟩:=bind_some hz;obtain⟨ds,q4⟩:=wo q1;obtain⟨v,hY,a,kvs,rfl,hR,rfl,_⟩:=E.sh i _ q4;have oa:O a=false:=by
   rcases hR with z|⟨_,z⟩
   ·exact(aD z).1
   ·exact(aD z).1
  have hR':Rd H a (.dK kvs):=msk_le.rd hR;have w:=uK (elt:=elt) (ifs:=ifs) (pos:=pos) (g:=xG X.K ks g) (tt:=xT X.K ft) (te:=xE X.K fe) hc S (C5 (tg:=tg) hN hv hd hcd) (λC s H fp=>PG.ex λz:(Addr->Bool)×Vv×D=>hg C s H fp z.1 z.2.1 z.2.2) (λC s H fp=>PTs.ex λz:(Addr->Bool)×Vv=>ht C s H fp z.1 z.2) (λC s H fp=>PE.ex λz:(Addr->Bool)×Vv=>he C s H fp z.1 z.2) hs pins s Y H
   (λv H'=>∃p H2,v=.ref p/\H'=upd H2 p (.lst (ns.map V.int))/\H2 p=none/\∃o H1,((H a=some (.dK kvs)/\H1=upd H a (.frz o (.dK kvs)))\/(H a=some (.frz o (.dK kvs))/\H1=H))/\Same H1 H2) I ⟨a,kvs,hY,hR',λo H1 hH=>?_⟩
  ·refine thn w λv s' ⟨y,H',I',r',p,H2,e1,e2,hp,o,H1,hH,sm⟩=>?_;subst e1 e2;rcases hH with⟨hH,rfl⟩|⟨hH,rfl⟩
   ·have h2:H2 a=some (.frz o (.dK kvs)):=sm _ _ upd_same;have pa:a≠p:=λz=>by subst z;rw[h2]at hp;cases hp
    have h3:upd H2 p (.lst (ns.map V.int)) a=some (.frz o (.dK kvs)):=by rw[ag pa];exact h2
    have sw:upd (upd H2 p (.lst (ns.map V.int))) a (.dK kvs)=upd (upd H2 a (.dK kvs)) p (.lst (ns.map V.int)):=by
     funext b;by_cases z:b=a
     ·subst z;rw[upd_same,ag pa,upd_same]
     ·by_cases z2:b=p
      ·subst z2;rw[ag z,upd_same,upd_same]
      ·rw[ag z,ag z2,ag z2,ag z]
    have I3:=I'.reset h3 (.inr ⟨o,rfl⟩) (I.noSt hH) (w:=.dK kvs) (by
     obtain⟨_,x⟩:=I'.hok a _ h3;exact x)
    refine⟨.ref p,_,I3,r',?_⟩;rw[sw];refine k p _ (upd H2 a (.dK kvs)) (λb u z=>?_) (by rw[ag (Ne.symm pa)];exact hp) (qb ns);by_cases zb:b=a
    ·subst zb;rw[hH]at z;cases z;exact upd_same
    ·rw[ag zb];exact sm b u (by rw[ag zb];exact z)
   ·exact⟨.ref p,_,I',r',k p _ H2 sm hp (qb ns)⟩
  ·have E1:VE X.K O Y H1 U/\H1 a=some (.frz o (.dK kvs)):=by
    rcases hH with⟨z,rfl⟩|⟨z,rfl⟩
    ·exact⟨E.still o z oa,upd_same⟩
    ·exact⟨E,z⟩
   obtain⟨_,ds',e',kk⟩:=re (K:=X.K) (ks:=ks) (fi:=λ_=>some ((kvs.map (·.1)).map ly)) (g:=g) (ft:=ft) (fe:=fe) (O:=O) (U:=U) (Y:=Y) (H:=H1) (Q:=λv H'=>∃p H2,v=.ref p/\H'=upd H2 p (.lst (ns.map V.int))/\H2 p=none/\∃o H1,((H a=some (.dK kvs)/\H1=upd H a (.frz o (.dK kvs)))\/(H a=some (.frz o (.dK kvs))/\H1=H))/\Same H1 H2)
    ⟨E1.1,rs,q2,λp xs H2 s2 hp l=>⟨p,H2,rfl,by rw[ce q3 l],hp,o,H1,hH,s2⟩⟩
   cases e';exact kk _ _ (Same.refl _) (u3 (by rw[aK oa];exact E1.2))
end
def mxZ:List Int->Int
 |[]=>0
 |[a]=>a
 |a::b::r=>if mxZ (b::r)>a then mxZ (b::r)else a
theorem fg:∀ {ns:List Int},ns≠[]->mxZ ns∈ns/\∀y∈ns,y<=mxZ ns
 |[],h=>absurd rfl h
 |[a],_=>⟨mem_cons_self,λy hy=>by rw[mem_singleton.mp hy];exact Int.le_refl _⟩
 |a::b::r,_=>by
  obtain⟨h1,h2⟩:=fg (ns:=b::r) (by simp);show(if mxZ (b::r)>a then mxZ (b::r)else a)∈_/\∀y∈_,y<=if mxZ (b::r)>a then mxZ (b::r)else a;by_cases c:mxZ (b::r)>a
  ·rw[if_pos c];refine⟨mem_cons_of_mem _ h1,λy hy=>?_⟩;rcases mem_cons.mp hy with rfl|hy
   ·omega
   ·exact h2 y hy
  ·rw[if_neg c];refine⟨mem_cons_self,λy hy=>?_⟩;rcases mem_cons.mp hy with rfl|hy
   ·exact Int.le_refl _
   ·have:=h2 y hy;omega
theorem tK (h1:m∈ns) (h2:∀y∈ns,y<=m):m=mxZ ns:=by
 obtain⟨a,b⟩:=fg (ns:=ns) (λz=>by subst z;cases h1);have:=h2 _ a;have:=b _ h1;omega
theorem u4 (hn:ns≠[]):ns.getD (argBest (λi j=>decide (ns.getD i 0>ns.getD j 0)) (ns.length-1)) 0=mxZ ns:=by
 have hp:=List.length_pos_iff.mpr hn;have hnum:∀i,(h:i<ns.length)->ns.getD i 0=ns[i]:=λi h=>by rw[List.getD_eq_getElem?_getD,getElem?_eq_getElem h];rfl
 obtain⟨b1,b2⟩:=argBest_gt (λi=>ns.getD i 0) (ns.length-1);refine tK ?_ λy hy=>?_
 ·rw[hnum _ (by omega)];exact List.getElem_mem _
 ·obtain⟨j,hj,rfl⟩:=List.getElem_of_mem hy;have:=b2 j (by omega);rw[hnum j hj]at this;exact this
section
variable {X:Cx}
def rMx (K:Frag):List V->Hp->VK->Prop:=λxs H Q=>(∃i j,xs=[.int i,.int j]/\Q (.int (if j>i then j else i)) H)\/(∃l ns,xs=[.ref l]/\SqL K H l (ns.map V.int)/\ns≠[]/\Q (.int (mxZ ns)) H)\/
 ∃q a kvs ns,xs=[.ref q]/\H q=some (.ext λh=>h.IsValuesView q a)/\Rd H a (.dK kvs)/\kvs.map (·.2)=ns.map V.int/\ns≠[]/\Q (.int (mxZ ns)) H
theorem mV:∀ {ns:List Int} {us:List Value},Vals (ns.map V.int) us->us.length=ns.length/\∀i,(h:i<ns.length)->∃t,us[i]?=some (.int ns[i] t)
 |[],us,r=>by cases r;exact⟨rfl,λi h=>by cases h⟩
 |n::ns,us,r=>by
  cases r with
  |cons r1 r2=>
   obtain⟨t,rfl⟩:=r1;obtain⟨l,h⟩:=mV r2;refine⟨by rw[length_cons,length_cons,l],λi hi=>?_⟩;cases i with
   |zero=>exact⟨t,rfl⟩
   |succ i=>exact h i (by rw[length_cons]at hi;omega)
theorem KV.vals {vs:List (Key×Value)} (r:KV kvs vs):Vals (kvs.map (·.2)) (vs.map (·.2)):=by
 induction r with
 |nil=>exact .nil
 |cons h _ ih=>exact .cons h.2 ih
theorem C6 {h:Heap} {a b:Addr} (hlt:a<h.objs.size) (hb:b∈[h.objs.size,a]):b<(h.push o).objs.size:=by
 rw[Heap.size_push];rcases mem_cons.mp hb with rfl|hb
 ·exact Nat.lt_succ_self _
 ·rw[mem_singleton.mp hb];exact Nat.lt_succ_of_lt hlt
theorem tL {ns:List Int} {us:List Value} (len:us.length=ns.length) (at_:∀i,(h:i<ns.length)->∃t,us[i]?=some (.int ns[i] t)) {v:Value} (h:us[i]?=some v):∃t,v=.int (ns.getD i 0) t:=by
 have hi:i<ns.length:=by rw[<-len];exact(List.getElem?_eq_some_iff.mp h).1
 obtain⟨t,e⟩:=at_ i hi;rw[h]at e;cases e;exact⟨t,by rw[List.getD_eq_getElem?_getD,getElem?_eq_getElem hi];rfl⟩
theorem rF {h h':Heap} (kp:∀b o,b ∉ [h.objs.size]->(h.push ob).get? b=some o->h'.get? b=some o) (e:h.get? b=some o):h'.get? b=some o:=
 kp b o (λhm=>by rw[mem_singleton.mp hm]at e;exact absurd (Heap.lt_size e) (Nat.lt_irrefl _)) (Heap.get?_push_of_some _ e)
theorem call_maxA (hc:X.calm=true):dU X (.builtin "max") (rMx X.K):=by
 intro pins s Y H xs us Q I r h;rcases h with⟨i,j,rfl,q⟩|⟨l,ns,rfl,hl,hn,q⟩|⟨v,a,kvs,ns,rfl,hv,hR,hk,hn,q⟩
 ·exact vS hc pins s Y H _ us Q I r ⟨i,j,rfl,q⟩
 ·obtain⟨u,rfl,ru⟩:=gp r;cases ru;obtain⟨its,rv,pl,hz⟩:=I.list hl;obtain⟨len,at_⟩:=mV rv;have hlt:l<s.heap.objs.size:=by obtain⟨_,e,_⟩:=pl.isList;exact Heap.lt_size e
  have hp:=List.length_pos_iff.mpr hn;refine call_max_walk (wpAny_pyIter_list pl.isList ?_);refine⟨_,_,_,_,_,_,_,rfl,Walks.list (A:=X.A.in1) (I.ok.hd hc) s.heap.objs.size l (Nat.ne_of_lt hlt) its.toArray,⟨⟨_,Heap.get?_push_size _ rfl,rfl,rfl⟩,pl.isList.push _⟩,λb hb=>?_,by rw[size_toArray,len];exact hp,CmpOf.ints_gt (λi=>ns.getD i 0) (λi v hv=>?_),λv h' tk hP kp=>?_⟩
  ·exact C6 hlt hb
  ·rw[List.getElem?_toArray]at hv;exact tL len at_ hv
  ·rw[List.getElem?_toArray,size_toArray,len]at hP;obtain⟨t,e⟩:=tL len at_ hP;rw[u4 hn]at e;exact⟨.int (mxZ ns),H,I.kept λb o e=>rF kp e,⟨t,e⟩,q⟩
 ·obtain⟨u,rfl,ru⟩:=gp r;cases ru;obtain⟨z,hsm,vs,rel,dd⟩:=oM I.hok hR;obtain⟨ep,da⟩:=dd.dictAt;have rv:=rel.vals;rw[hk]at rv;obtain⟨len,at_⟩:=mV rv;rw[length_map]at len;have hp:=List.length_pos_iff.mpr hn;have at2:∀i v,(∃k,vs[i]?=some (k,v))->∃t,v=Value.int (ns.getD i 0) t:=λi v ⟨k,e⟩=>tL (by rw[length_map];exact len) at_ (by rw[getElem?_map,e];rfl);refine call_max_walk (wpAny_pyIter_values (knd:=bY X.prog X.w) (I.hok v _ hv).1 da ?_);refine⟨_,_,_,_,_,_,_,rfl,Walks.dictValues (A:=X.A.in1) (I.ok.hd hc) s.heap.objs.size a (Nat.ne_of_lt da.lt_size) vs ep,⟨⟨_,Heap.get?_push_size _ rfl,rfl,rfl⟩,da.push _⟩,λb hb=>C6 da.lt_size hb,by rw[len];exact hp,CmpOf.ints_gt (λi=>ns.getD i 0) at2,λv h' tk hP kp=>?_⟩;obtain⟨t,e⟩:=at2 _ v hP;rw[len,u4 hn]at e;exact⟨.int (mxZ ns),H,I.kept λb o e=>rF kp e,⟨t,e⟩,q⟩
def lz:List D->Option D
 |[.int i,.int j]=>some (.int (if j>i then j else i))
 |[.lst ds]=>(bE ds).bind λns=>if ns.isEmpty then none else some (.int (mxZ ns))
 |_=>none
theorem rn_max:RnD X.K (rMx X.K) lz:=λO H xs ds d Q hd l e k=>by
 unfold lz at e;split at e
 ·cases e;obtain⟨u,v,rfl,iu,iv⟩:=is2 l;cases(show u=.int _ from iu);cases(show v=.int _ from iv);exact .inl ⟨_,_,rfl,k _ H (Same.refl _) rfl⟩
 ·obtain⟨ns,e1,e2⟩:=bind_some e;obtain⟨u,rfl,p,ys,rfl,hq,il⟩:=is1 l;split at e2
  ·cases e2
  ·rename_i hn;cases e2;have z:=ce e1 il;subst z;exact .inr (.inl ⟨p,ns,rfl,msk_le.seq hq,λz=>hn (by rw[z];rfl),k _ H (Same.refl _) rfl⟩)
 ·cases e
def HZ:V->List V->Hp->VK->Prop:=λx vs H Q=>∃a kvs,x=.ref a/\vs=[]/\Rd H a (.dK kvs)/\∀q,H q=none->Q (.ref q) (upd H q (.ext λh=>h.IsValuesView q a))
theorem jW:MtR X "dict.values" HZ:=by
 intro pins s Y H x vs v us Q I rx rv h;obtain⟨a,kvs,rfl,rfl,hR,q⟩:=h;cases rx;have hus:=rv.zero;subst hus;obtain⟨z,hsm,vs,rel,dd⟩:=oM I.hok hR;refine call_meetsIn PySem.F.slot_dict_values dd.typeIs PySem.F.entry_dict_values (PySem.F.args_dict_values_1 _) (meets_dict_values (bY X.prog X.w) a hsm) ⟨⟨vs,dd⟩,?_⟩;have hv:(s.heap.push {cls:=.type "dict_values",data:=.fields #[.ref a]}).IsValuesView s.heap.objs.size a:=⟨_,Heap.get?_push_size _ rfl,rfl,rfl⟩;refine⟨.ref s.heap.objs.size,_,I.laid (t':=s.toks) (o:=.ext λh=>h.IsValuesView s.heap.objs.size a) (λb o e=>Heap.get?_push_of_some _ e) (le_refl _) ⟨hv,⟨_,Heap.get?_push_size _ rfl⟩,λh1 h2 ⟨o,e,r⟩ k=>⟨o,k o e,r⟩⟩,rfl,q _ (I.hok.fresh (le_refl _))⟩
def mxV (f:Vv->Option D):Vv->Option D:=λU=>(f U).bind λd=>match d with
 |.dct _ ds=>(bE ds).bind λns=>if ns.isEmpty then none else some (.int (mxZ ns))
 |_=>none
theorem EH (hc:X.calm=true) (hg:Gl X "max") (hm:X.mg "max"=none) (h:PP X o f) (hbase:attributeBase o "values" X.env (eval o X.env)=eval o X.env) (hline:(apos.endLine==cpos.line)=true):
  PP X (.Call (.Name "max" p) [.Call (.Attribute o "values" apos) [] [] cpos] [] pos) (mxV f):=λO U=>
 (gr (call_maxA hc) hg hm b_max (bK (DX PySem.F.plainAttrs_dict PySem.F.slot_dict_values PySem.F.type_dict_values jW (h O U) hbase hline) pa_nil rfl) (by decide) (by decide) rfl rfl).imp λY H Q ⟨E,d,q,k⟩=>by
 obtain⟨c,q1,q2⟩:=bind_some q
 cases c with
 |dct ks ds=>
  obtain⟨ns,q3,q4⟩:=bind_some q2;split at q4
  ·cases q4
  ·rename_i hn;cases q4;refine⟨E,_,q1,λv H1 s1 iv=>?_⟩;obtain⟨a,kvs,rfl,hR,rfl,il⟩:=iv;have hR':Rd H1 a (.dK kvs):=msk_le.rd hR;refine⟨.inr (.inr (.inl ⟨rfl,.inl ⟨kvs,hR'⟩⟩)),a,kvs,rfl,rfl,hR',λq hq=>?_⟩;exact .inr (.inr ⟨q,a,kvs,ns,rfl,upd_same,(Same.new hq).rd hR',ce q3 il,λz=>hn (by rw[z];rfl),k _ _ (s1.trans (Same.new hq)) rfl⟩)
 |_=>cases q2
def mxC (L:Vv->Option (List D)):Vv->Option D:=λU=>(aa (λU=>(L U).map D.lst) (λ_=>some []) U).bind lz
theorem EI (hc:X.calm=true) (hg:Gl X "max") (hm:X.mg "max"=none) (h:PF X e L) (hs:starEach [e] X.env=[(false,eval e X.env)]):PP X (.Call (.Name "max" p) [e] [] pos) (mxC L):=
 pp_callB (call_maxA hc) rn_max hg hm b_max (px_cons h.pp pP hs) (by decide) (by decide) hs rfl
end
end L2
namespace L2
open PySem PySem.W PyProof.Rows
def kRun {α:Type} (c:Nat->Nat->Bool):KasT α->α
 |.ret a=>a
 |.ask i j k=>kRun c (k (c i j))
theorem dP {f:α->KasT β}:∀t:KasT α,kRun c (t.bind f)=kRun c (f (kRun c t))
 |.ret _=>rfl
 |.ask i j k=>dP (k (c i j))
section
variable {ky:Nat->Int}
def kC (ky:Nat->Int) (i j:Nat):Bool:=decide (ky i<ky j)
def kG (ky:Nat->Int) (p:Array Nat) (i:Nat):Int:=ky (p.getD i 0)
theorem mW (h:p[i]?=q[j]?):kG ky p i=kG ky q j:=by
 unfold kG;rw[Array.getD_eq_getD_getElem?,Array.getD_eq_getD_getElem?,h]
def kUp (ky:Nat->Int) (p:Array Nat) (k:Nat):Prop:=∀i j,i<=j->j<k->kG ky p i<=kG ky p j
def kDn (ky:Nat->Int) (p:Array Nat) (k:Nat):Prop:=∀i j,i<=j->j<k->kG ky p j<=kG ky p i
def kEq (ky:Nat->Int) (p:Array Nat) (a b:Nat):Prop:=∀i,a<=i->i<b->kG ky p i=kG ky p (b-1)
theorem tM (hj:j<=p.size) (k:Nat):(kas_rev p i j)[k]?=if i<=k/\k<j then p[i+j-1-k]? else p[k]?:=by
 unfold kas_rev;rw[getElem?_mirror hj _ (by omega)];split<;>split<;>first|rfl|(exfalso;omega)|(congr 1;omega)
theorem mX (hj:j<=p.size) (h:kEq ky p i j) (k:Nat):kG ky (kas_rev p i j) k=kG ky p k:=by
 have e:=tM (i:=i) hj k;by_cases c:i<=k/\k<j
 ·rw[if_pos c]at e;rw[mW e,h _ (by omega) (by omega),h k c.1 c.2]
 ·rw[if_neg c]at e;exact mW e
theorem cH (p:Array Nat) (i j:Nat):(kas_rev p i j).Perm p:=mirror_perm _ _ _ _
theorem dQ {p q:Array Nat} (h:p.Perm q):p.size=q.size:=h.size_eq
theorem tN:∀ (f n:Nat),1<=n->kUp ky p n->
  n<=kRun (kC ky) (kas_asc p f n)/\kRun (kC ky) (kas_asc p f n)<=n+f/\kUp ky p (kRun (kC ky) (kas_asc p f n))/\
   (kRun (kC ky) (kas_asc p f n)=n+f\/kG ky p (kRun (kC ky) (kas_asc p f n))<kG ky p (kRun (kC ky) (kas_asc p f n)-1))
 |0,n,_,h=>⟨le_refl _,le_refl _,h,.inl rfl⟩
 |f+1,n,h1,h=>by
  have e:kRun (kC ky) (kas_asc p (f+1) n)=if kG ky p n<kG ky p (n-1)then n else kRun (kC ky) (kas_asc p f (n+1)):=by
   show kRun (kC ky) (if decide (kG ky p n<kG ky p (n-1))=true then KasT.ret n else kas_asc p f (n+1))=_;by_cases c:kG ky p n<kG ky p (n-1)
   ·rw[if_pos c,if_pos (decide_eq_true c)];rfl
   ·rw[if_neg c,if_neg (by rw[decide_eq_true_eq];exact c)]
  rw[e];by_cases c:kG ky p n<kG ky p (n-1)
  ·rw[if_pos c];exact⟨le_refl _,by omega,h,.inr c⟩
  ·rw[if_neg c];obtain⟨a1,a2,a3,a4⟩:=tN f (n+1) (by omega) (λi j hij hj=>by
    rcases Nat.lt_or_ge j n with q|q
    ·exact h i j hij q
    ·have:j=n:=by omega
     subst this;rcases Nat.lt_or_ge i j with r|r
     ·exact Int.le_trans (h i (j-1) (by omega) (by omega)) (by omega)
     ·have:i=j:=by omega
      subst this;exact Int.le_refl _)
   exact⟨by omega,by omega,a3,a4.imp (λq=>by omega) id⟩
structure kDs (ky:Nat->Int) (p:Array Nat) (n q:Nat):Prop where
 n1:1<=n
 hq:q+1<=n
 dn:kDn ky p n
 eq:kEq ky p (n-(q+1)) n
theorem qc (h1:1<=n) (h:kDn ky p n) (c:kG ky p n<=kG ky p (n-1)) (e:∀k,kG ky p' k=kG ky p k):kDn ky p' (n+1):=λi j hij hj=>by
 rw[e,e];rcases Nat.lt_or_ge j n with q|q
 ·exact h i j hij q
 ·have:j=n:=by omega
  subst this;rcases Nat.lt_or_ge i j with r|r
  ·exact Int.le_trans c (h i (j-1) (by omega) (by omega))
  ·have:i=j:=by omega
   subst this;exact Int.le_refl _
theorem l9:∀ (f:Nat) (p:Array Nat) (n q:Nat),kDs ky p n q->n+f<=p.size->
  ∃p' m q',kRun (kC ky) (kas_desc f p n q)=(p',m,q')/\p'.Perm p/\n<=m/\m<=n+f/\kDs ky p' m q'
 |0,p,n,q,h,_=>⟨p,n,q,rfl,.refl _,le_refl _,le_refl _,h⟩
 |f+1,p,n,q,h,hz=>by
  have e:kRun (kC ky) (kas_desc (f+1) p n q)=if kG ky p n<kG ky p (n-1)then(if q>0 then kRun (kC ky) (kas_desc f (kas_rev p (n-(q+1)) n) (n+1) 0)else kRun (kC ky) (kas_desc f p (n+1) 0))
    else if kG ky p (n-1)<kG ky p n then(p,n,q)else kRun (kC ky) (kas_desc f p (n+1) (q+1)):=by
   show kRun (kC ky) (if decide (kG ky p n<kG ky p (n-1))=true then(if q>0 then kas_desc f (kas_rev p (n-(q+1)) n) (n+1) 0 else kas_desc f p (n+1) 0)
    else KasT.ask (p.getD (n-1) 0) (p.getD n 0) λd=>if d=true then KasT.ret (p,n,q)else kas_desc f p (n+1) (q+1))=_
   by_cases c:kG ky p n<kG ky p (n-1)
   ·rw[if_pos c,if_pos (decide_eq_true c)];by_cases c2:q>0
    ·rw[if_pos c2,if_pos c2]
    ·rw[if_neg c2,if_neg c2]
   ·rw[if_neg c,if_neg (by rw[decide_eq_true_eq];exact c)];show kRun (kC ky) (if decide (kG ky p (n-1)<kG ky p n)=true then KasT.ret (p,n,q)else kas_desc f p (n+1) (q+1))=_;by_cases c2:kG ky p (n-1)<kG ky p n
    ·rw[if_pos c2,if_pos (decide_eq_true c2)];rfl
    ·rw[if_neg c2,if_neg (by rw[decide_eq_true_eq];exact c2)]
  have one:∀p':Array Nat,kEq ky p' (n+1-(0+1)) (n+1):=λp' i h1 h2=>by
   have:i=n+1-1:=by omega
   rw[this]
  rw[e];by_cases c:kG ky p n<kG ky p (n-1)
  ·rw[if_pos c];by_cases c2:q>0
   ·rw[if_pos c2];have hr:=cH p (n-(q+1)) n;have hs:=dQ hr;obtain⟨p',m,q',a1,a2,a3,a4,a5⟩:=l9 f (kas_rev p (n-(q+1)) n) (n+1) 0 ⟨by omega,by omega,qc h.n1 h.dn (Int.le_of_lt c) (mX (by omega) h.eq),one _⟩ (by omega);exact⟨p',m,q',a1,a2.trans hr,by omega,by omega,a5⟩
   ·rw[if_neg c2];obtain⟨p',m,q',a1,a2,a3,a4,a5⟩:=l9 f p (n+1) 0 ⟨by omega,by omega,qc h.n1 h.dn (Int.le_of_lt c) (λ_=>rfl),one _⟩ (by omega);exact⟨p',m,q',a1,a2,by omega,by omega,a5⟩
  ·rw[if_neg c];by_cases c2:kG ky p (n-1)<kG ky p n
   ·rw[if_pos c2];exact⟨p,n,q,rfl,.refl _,le_refl _,by omega,h⟩
   ·rw[if_neg c2];have eq:kG ky p n=kG ky p (n-1):=by omega
    obtain⟨p',m,q',a1,a2,a3,a4,a5⟩:=l9 f p (n+1) (q+1) ⟨by omega,by have:=h.hq;omega,qc h.n1 h.dn (Int.le_of_eq eq) (λ_=>rfl),λi h1 h2=>by
     show kG ky p i=kG ky p n;rcases Nat.lt_or_ge i n with r|r
     ·rw[h.eq i (by omega) r,eq]
     ·have:i=n:=by omega
      rw[this]⟩ (by omega)
    exact⟨p',m,q',a1,a2,by omega,by omega,a5⟩
theorem u5 (h1:1<=n) (hn:n<=nrem) (hz:nrem<=p.size) (h:kDn ky p n):
  ∃m p',kRun (kC ky) (kas_tail3 n nrem p)=(m,p')/\p'.Perm p/\1<=m/\m<=nrem/\kUp ky p' m:=by
 have up:kUp ky (kas_rev p 0 n) n:=λi j hij hj=>by
  have e1:=tM (p:=p) (i:=0) (j:=n) (by omega) i;have e2:=tM (p:=p) (i:=0) (j:=n) (by omega) j;rw[if_pos (by omega)]at e1 e2;rw[mW e1,mW e2];exact h _ _ (by omega) (by omega)
 obtain⟨a1,a2,a3,_⟩:=tN (nrem-n) n h1 up
 refine⟨_,kas_rev p 0 n,?_,cH _ _ _,by omega,by omega,a3⟩
 unfold kas_tail3
 rw[dP]
 rfl
theorem u6 (hn:n+1<=nrem) (hz:nrem<=p.size) (h:kDn ky p (n+1)):
  ∃m p',kRun (kC ky) (kas_descPart n nrem p)=(m,p')/\p'.Perm p/\1<=m/\m<=nrem/\kUp ky p' m:=by
 obtain⟨p1,m,q,e,a2,a3,a4,a5⟩:=l9 (nrem-(n+1)) p (n+1) 0 ⟨by omega,by omega,h,λi h1 h2=>by
  have:i=n+1-1:=by omega
  rw[this]⟩ (by omega)
 have hs:=dQ a2
 unfold kas_descPart
 rw[dP,e]
 dsimp only
 by_cases c:q>0
 ·rw[if_pos c];have hr:=cH p1 (m-(q+1)) m;have hs2:=dQ hr;have d:kDn ky (kas_rev p1 (m-(q+1)) m) m:=λi j hij hj=>by
   rw[mX (by omega) a5.eq,mX (by omega) a5.eq];exact a5.dn i j hij hj
  obtain⟨m',p',b1,b2,b3⟩:=u5 (nrem:=nrem) a5.n1 (by omega) (by omega) d;exact⟨m',p',b1,b2.trans (hr.trans a2),b3⟩
 ·rw[if_neg c];obtain⟨m',p',b1,b2,b3⟩:=u5 (p:=p1) (nrem:=nrem) a5.n1 (by omega) (by omega) a5.dn;exact⟨m',p',b1,b2.trans a2,b3⟩
theorem yw (h1:1<=nrem) (hz:nrem<=p.size):
  ∃m p',kRun (kC ky) (kas_count nrem p)=(m,p')/\p'.Perm p/\1<=m/\m<=nrem/\kUp ky p' m:=by
 obtain⟨a1,a2,a3,a4⟩:=tN (ky:=ky) (p:=p) (nrem-1) 1 (le_refl _) (λi j hij hj=>by
  have:i=j:=by omega
  subst this;exact Int.le_refl _)
 unfold kas_count
 rw[dP]
 generalize kRun (kC ky) (kas_asc p (nrem-1) 1)=n at a1 a2 a3 a4
 by_cases c:(n==nrem)=true
 ·rw[if_pos c];exact⟨n,p,rfl,.refl _,a1,by omega,a3⟩
 ·rw[if_neg c];have c':n≠nrem:=λq=>c (beq_iff_eq.mpr q);have a4:kG ky p n<kG ky p (n-1):=by
   rcases a4 with q|q
   ·omega
   ·exact q
  by_cases c2:n>1
  ·rw[if_pos c2];have e:kRun (kC ky) (KasT.ask (p.getD 0 0) (p.getD (n-1) 0) λc=>if c=true then KasT.ret (n,p)else kas_descPart n nrem (kas_rev p 0 n))=if kG ky p 0<kG ky p (n-1)then(n,p)else kRun (kC ky) (kas_descPart n nrem (kas_rev p 0 n)):=by
    show kRun (kC ky) (if decide (kG ky p 0<kG ky p (n-1))=true then KasT.ret (n,p)else kas_descPart n nrem (kas_rev p 0 n))=_;by_cases c3:kG ky p 0<kG ky p (n-1)
    ·rw[if_pos c3,if_pos (decide_eq_true c3)];rfl
    ·rw[if_neg c3,if_neg (by rw[decide_eq_true_eq];exact c3)]
   rw[e];by_cases c3:kG ky p 0<kG ky p (n-1)
   ·rw[if_pos c3];exact⟨n,p,rfl,.refl _,a1,by omega,a3⟩
   ·rw[if_neg c3];have eq:kEq ky p 0 n:=λi h1 h2=>by
     have x1:=a3 i (n-1) (by omega) (by omega);have x2:=a3 0 i (by omega) h2;omega
    have hr:=cH p 0 n;have hs:=dQ hr;obtain⟨m',p',b1,b2,b3⟩:=u6 (ky:=ky) (p:=kas_rev p 0 n) (n:=n) (nrem:=nrem) (by omega) (by omega) (λi j hij hj=>by
     rw[mX (by omega) eq,mX (by omega) eq];rcases Nat.lt_or_ge j n with r|r
     ·rw[eq i (by omega) (by omega),eq j (by omega) r];exact Int.le_refl _
     ·have:j=n:=by omega
      subst this;rcases Nat.lt_or_ge i j with r'|r'
      ·rw[eq i (by omega) r'];omega
      ·have:i=j:=by omega
       subst this;exact Int.le_refl _)
    exact⟨m',p',b1,b2.trans hr,b3⟩
  ·rw[if_neg c2];refine u6 (by omega) hz λi j hij hj=>?_;have:n=1:=by omega
   subst this;rcases Nat.lt_or_ge i j with r|r
   ·have e1:i=0:=by omega
    have e2:j=1:=by omega
    subst e1 e2;exact Int.le_of_lt a4
   ·have:i=j:=by omega
    subst this;exact Int.le_refl _
theorem mY (up:kUp ky p k):∀ (f l r:Nat),l<=r->r<=k->r-l<=f->(∀i,i<l->kG ky p i<=kG ky p k)->(∀i,r<=i->i<k->kG ky p k<kG ky p i)->
  kRun (kC ky) (kas_place p k f l r)<=k/\(∀i,i<kRun (kC ky) (kas_place p k f l r)->kG ky p i<=kG ky p k)/\(∀i,kRun (kC ky) (kas_place p k f l r)<=i->i<k->kG ky p k<kG ky p i)
 |0,l,r,h1,h2,h3,a,b=>⟨by show l<=k;omega,a,λi hi hk=>b i (by have:l<=i:=hi;omega) hk⟩
 |f+1,l,r,h1,h2,h3,a,b=>by
  unfold kas_place;by_cases c:l≥r
  ·rw[if_pos c];exact⟨by show l<=k;omega,a,λi hi hk=>b i (by have:l<=i:=hi;omega) hk⟩
  ·rw[if_neg c];have e:kRun (kC ky) (KasT.ask (p.getD k 0) (p.getD ((l+r)/2) 0) λc=>if c=true then kas_place p k f l ((l+r)/2)else kas_place p k f ((l+r)/2+1) r)=if kG ky p k<kG ky p ((l+r)/2)then kRun (kC ky) (kas_place p k f l ((l+r)/2))else kRun (kC ky) (kas_place p k f ((l+r)/2+1) r):=by
    show kRun (kC ky) (if decide (kG ky p k<kG ky p ((l+r)/2))=true then kas_place p k f l ((l+r)/2)else kas_place p k f ((l+r)/2+1) r)=_;by_cases c3:kG ky p k<kG ky p ((l+r)/2)
    ·rw[if_pos c3,if_pos (decide_eq_true c3)]
    ·rw[if_neg c3,if_neg (by rw[decide_eq_true_eq];exact c3)]
   rw[e];by_cases c3:kG ky p k<kG ky p ((l+r)/2)
   ·rw[if_pos c3];exact mY up f l ((l+r)/2) (by omega) (by omega) (by omega) a λi hi hk=>by
     have:=up ((l+r)/2) i hi hk;omega
   ·rw[if_neg c3];exact mY up f ((l+r)/2+1) r (by omega) h2 (by omega) (λi hi=>by
     have:=up i ((l+r)/2) (by omega) (by omega);omega) b
theorem yy:∀ (f:Nat) (p:Array Nat) (k:Nat),kUp ky p k->k+f<=p.size->(kRun (kC ky) (kas_bin f p k)).Perm p/\kUp ky (kRun (kC ky) (kas_bin f p k)) (k+f)
 |0,p,k,h,_=>⟨.refl _,h⟩
 |f+1,p,k,h,hz=>by
  obtain⟨a1,a2,a3⟩:=mY h k 0 k (Nat.zero_le _) (le_refl _) (by omega) (λi hi=>by omega) (λi h1 h2=>by omega);have e:kRun (kC ky) (kas_bin (f+1) p k)=kRun (kC ky) (kas_bin f (bubble p k (k-kRun (kC ky) (kas_place p k k 0 k))) (k+1)):=dP _;rw[e];generalize kRun (kC ky) (kas_place p k k 0 k)=l at a1 a2 a3;have hp:(bubble p k (k-l)).Perm p:=bubble_perm _ _ _;have hs:=dQ hp;have at':∀i,kG ky (bubble p k (k-l)) i=if i=l then kG ky p k else if l<i/\i<=k then kG ky p (i-1)else kG ky p i:=λi=>by
   have z:=getElem?_bubble (xs:=p) (src:=k) (by omega) (k-l) (by omega) i;rw[show k-(k-l)=l by omega]at z;by_cases c1:i=l
   ·rw[if_pos c1]at z⊢;exact mW z
   ·rw[if_neg c1]at z⊢;by_cases c2:l<i/\i<=k
    ·rw[if_pos c2]at z⊢;exact mW z
    ·rw[if_neg c2]at z⊢;exact mW z
  obtain⟨b1,b2⟩:=yy f (bubble p k (k-l)) (k+1) (λi j hij hj=>by
   rw[at',at'];by_cases ci:i=l
   ·rw[if_pos ci];by_cases cj:j=l
    ·rw[if_pos cj];exact Int.le_refl _
    ·rw[if_neg cj,if_pos (by omega)];exact Int.le_of_lt (a3 (j-1) (by omega) (by omega))
   ·rw[if_neg ci];by_cases ci2:l<i/\i<=k
    ·rw[if_pos ci2,if_neg (by omega),if_pos (by omega)];exact h _ _ (by omega) (by omega)
    ·rw[if_neg ci2];by_cases cj:j=l
     ·rw[if_pos cj];exact a2 i (by omega)
     ·rw[if_neg cj];by_cases cj2:l<j/\j<=k
      ·rw[if_pos cj2];exact h _ _ (by omega) (by omega)
      ·rw[if_neg cj2];exact h _ _ hij (by omega)) (by omega)
  exact⟨b1.trans hp,by rw[show k+(f+1)=k+1+f by omega];exact b2⟩
theorem BH (h1:1<=n):(kRun (kC ky) (kas_sort n)).Perm (List.toArray (List.range n))/\kUp ky (kRun (kC ky) (kas_sort n)) n:=by
 obtain⟨m,p,e,a2,a3,a4,a5⟩:=yw (ky:=ky) (p:=List.toArray (List.range n)) h1 (by simp);have hs:=dQ a2;have hz:(List.toArray (List.range n)).size=n:=by simp
 unfold kas_sort;rw[dP,e];dsimp only;by_cases c:m<n
 ·rw[if_pos c];have hm:max m 1=m:=by omega
  rw[hm];obtain⟨b1,b2⟩:=yy (n-m) p m a5 (by omega);rw[show m+(n-m)=n by omega]at b2;exact⟨b1.trans a2,b2⟩
 ·rw[if_neg c];have:m=n:=by omega
  subst this;exact⟨a2,a5⟩
end
def kIn {α:Type} (n:Nat) (Q:α->Prop):KasT α->Prop
 |.ret a=>Q a
 |.ask i j k=>i<n/\j<n/\∀b,kIn n Q (k b)
theorem fh {Q Q'} (h:∀a,Q a->Q' a):∀t:KasT α,kIn n Q t->kIn n Q' t
 |.ret a,z=>h a z
 |.ask _ _ k,z=>⟨z.1,z.2.1,λb=>fh h (k b) (z.2.2 b)⟩
theorem fj {f:α->KasT β}:∀t:KasT α,kIn n (λa=>kIn n Q (f a)) t->kIn n Q (t.bind f)
 |.ret _,z=>z
 |.ask _ _ k,z=>⟨z.1,z.2.1,λb=>fj (k b) (z.2.2 b)⟩
theorem cJ [Decidable c] {t u:KasT α} (h:kIn n Q t) (h':kIn n Q u):kIn n Q (if c then t else u):=by
 by_cases q:c
 ·rw[if_pos q];exact h
 ·rw[if_neg q];exact h'
def kB (n:Nat) (p:Array Nat):Prop:=∀k,p.getD k 0<n
theorem iq (h0:0<n) (h:q.Perm p) (b:kB n p):kB n q:=λk=>by
 rw[Array.getD_eq_getD_getElem?];cases e:q[k]? with
 |none=>exact h0
 |some x=>
  obtain⟨j,hj,e2⟩:=Array.getElem_of_mem (h.mem_iff.mp (Array.mem_of_getElem? e));have z:=b j;rw[Array.getD_eq_getD_getElem?,Array.getElem?_eq_getElem hj,e2]at z;exact z
section
variable {n:Nat}
theorem tO (b:kB n p):∀ (f m:Nat),kIn n (λ_=>True) (kas_asc p f m)
 |0,_=>trivial
 |f+1,m=>⟨b _,b _,λc=>cJ trivial (tO b f (m+1))⟩
theorem ma (h0:0<n):∀ (f:Nat) (p:Array Nat) (m q:Nat),kB n p->kIn n (λr=>kB n r.1) (kas_desc f p m q)
 |0,p,_,_,b=>b
 |f+1,p,m,q,b=>⟨b _,b _,λc=>cJ (cJ (ma h0 f _ _ _ (iq h0 (cH _ _ _) b)) (ma h0 f _ _ _ b)) ⟨b _,b _,λd=>cJ b (ma h0 f _ _ _ b)⟩⟩
theorem u7 (h0:0<n) (b:kB n p) (m r:Nat):kIn n (λz=>kB n z.2) (kas_tail3 m r p):=
 fj _ (fh (λ_ _=>iq h0 (cH _ _ _) b) _ (tO (iq h0 (cH _ _ _) b) _ _))
theorem u8 (h0:0<n) (b:kB n p) (m r:Nat):kIn n (λz=>kB n z.2) (kas_descPart m r p):=
 fj _ (fh (λz bz=>cJ (u7 h0 (iq h0 (cH _ _ _) bz) _ _) (u7 h0 bz _ _)) _ (ma h0 _ _ _ _ b))
theorem yz (h0:0<n) (b:kB n p) (r:Nat):kIn n (λz=>kB n z.2) (kas_count r p):=by
 unfold kas_count;refine fj _ (fh (λm _=>?_) _ (tO b _ _));refine cJ ?_ (cJ ⟨b _,b _,λc=>cJ ?_ (u8 h0 (iq h0 (cH _ _ _) b) _ _)⟩ (u8 h0 b _ _))
 ·exact b
 ·exact b
theorem mZ (b:kB n p) (k:Nat):∀ (f l r:Nat),kIn n (λ_=>True) (kas_place p k f l r)
 |0,_,_=>trivial
 |f+1,l,r=>by
  unfold kas_place;exact cJ trivial ⟨b _,b _,λc=>cJ (mZ b k f _ _) (mZ b k f _ _)⟩
theorem yA (h0:0<n):∀ (f:Nat) (p:Array Nat) (k:Nat),kB n p->kIn n (λ_=>True) (kas_bin f p k)
 |0,_,_,_=>trivial
 |f+1,p,k,b=>fj _ (fh (λl _=>yA h0 f _ _ (iq h0 (bubble_perm _ _ _) b)) _ (mZ b k _ _ _))
theorem u9 (h0:0<n):kIn n (λ_=>True) (kas_sort n):=by
 have b:kB n (List.toArray (List.range n)):=λk=>by
  rw[Array.getD_eq_getD_getElem?];by_cases h:k<n
  ·simp[h]
  ·simp[h,h0]
 unfold kas_sort;refine fj _ (fh (λz bz=>cJ (yA h0 _ _ _ bz) ?_) _ (yz h0 b n));exact trivial
end
theorem vb {ask} (ha:∀i j C,i<n->j<n->C (c i j) s->ask i j C s):
  ∀t:KasT α,kIn n (λ_=>True) t->Q (kRun c t) s->t.kasWp ask Q s
 |.ret _,_,h=>h
 |.ask i j k,z,h=>ha i j _ z.1 z.2.1 (vb ha (k (c i j)) (z.2.2 _) h)
end L2
namespace L2
open PySem PySem.W PyProof.Rows
section
variable {prog:Program} {w:World} {A:Around} {E:Value->Shared->Prop} {s:Shared}
structure SortBy (prog:Program) (w:World) (A:Around) (s:Shared) (a:Addr) (vs:List Value) (κ:SortKind) (c:Nat->Nat->Bool):Prop where
 kd:∀h',(∀b o,b≠a->s.heap.get? b=some o->h'.get? b=some o)->2<=vs.length->∀ (Q:SortKind->Shared->Prop),Q κ {s with heap:=h'}->wpAny (model prog w) A (keyKind' vs.toArray) Q (λ_ _=>False) {s with heap:=h'}
 cp:∀h',(∀b o,b≠a->s.heap.get? b=some o->h'.get? b=some o)->∀i j,i<vs.length->j<vs.length->∀ (Q:Bool->Shared->Prop),Q (c i j) {s with heap:=h'}->wpAny (model prog w) A (keyLt' κ (vs.getD i .none) (vs.getD j .none)) Q (λ_ _=>False) {s with heap:=h'}
end
theorem yB:∀a:List Int,HT.lexLt a a=false
 |[]=>rfl
 |x::a=>by rw[HT.lexLt_cons,if_pos rfl];exact yB a
theorem yC:∀a b:List Int,HT.lexLt a b=true->HT.lexLt b a=false
 |[],[],_=>rfl
 |[],_::_,_=>rfl
 |_::_,[],h=>by cases h
 |x::a,y::b,h=>by
  rw[HT.lexLt_cons]at h⊢;by_cases q:x=y
  ·rw[if_pos q]at h;rw[if_pos q.symm];exact yC a b h
  ·rw[if_neg q]at h;rw[if_neg (Ne.symm q)];have:=of_decide_eq_true h;exact decide_eq_false (by omega)
theorem tR:∀k j i:List Int,HT.lexLt k j=true->HT.lexLt i j=false->HT.lexLt k i=true
 |[],[],_,h,_=>by cases h
 |_::_,[],_,h,_=>by cases h
 |_,_::_,[],_,h=>by cases h
 |[],_::_,_::_,_,_=>rfl
 |x::k,y::j,z::i,h,g=>by
  rw[HT.lexLt_cons]at h g⊢;by_cases q:x=y
  ·rw[if_pos q]at h;by_cases r:z=y
   ·rw[if_pos r]at g;rw[if_pos (q.trans r.symm)];exact tR k j i h g
   ·rw[if_neg r]at g;have:=of_decide_eq_false g;rw[if_neg (by omega)];exact decide_eq_true (by omega)
  ·rw[if_neg q]at h;have h:=of_decide_eq_true h;by_cases r:z=y
   ·rw[if_neg (by omega)];exact decide_eq_true (by omega)
   ·rw[if_neg r]at g;have:=of_decide_eq_false g;rw[if_neg (by omega)];exact decide_eq_true (by omega)
theorem EJ (h:HT.lexLt a b=true) (g:HT.lexLt b c=true):HT.lexLt a c=true:=tR a b c h (yC b c g)
theorem yD:∀a b:List Int,HT.lexLt a b=false->HT.lexLt b a=false->a=b
 |[],[],_,_=>rfl
 |[],_::_,h,_=>by cases h
 |_::_,[],_,h=>by cases h
 |x::a,y::b,h,g=>by
  rw[HT.lexLt_cons]at h g;by_cases q:x=y
  ·rw[if_pos q]at h;rw[if_pos q.symm]at g;rw[q,yD a b h g]
  ·rw[if_neg q]at h;rw[if_neg (Ne.symm q)]at g;have:=of_decide_eq_false h;have:=of_decide_eq_false g;omega
theorem EK {l:List Nat} (h:∀x,p x=true->q x=true) (hy:y∈l) (h1:q y=true) (h2:p y=false):l.countP p<l.countP q:=by
 induction l with
 |nil=>cases hy
 |cons a l ih=>
  have m:l.countP p<=l.countP q:=List.countP_mono_left λx _ z=>h x z;rcases mem_cons.mp hy with rfl|hy
  ·rw[List.countP_cons,List.countP_cons,h1,h2];simp;omega
  ·have:=ih hy;rw[List.countP_cons,List.countP_cons];have z:(if p a=true then 1 else 0)<=(if q a=true then 1 else 0):=by
    cases e:p a with
    |true=>rw[h a e];simp
    |false=>simp
   omega
def rk (n:Nat) (f:Nat->List Int) (i:Nat):Int:=(((List.range n).countP λk=>HT.lexLt (f k) (f i):Nat):Int)
theorem C7 (hi:i<n):HT.lexLt (f i) (f j)=kC (rk n f) i j:=by
 unfold kC rk;cases e:HT.lexLt (f i) (f j)with
 |true=>
  refine(decide_eq_true ?_).symm;have:=EK (p:=λk=>HT.lexLt (f k) (f i)) (q:=λk=>HT.lexLt (f k) (f j)) (l:=List.range n) (λx h=>EJ h e) (List.mem_range.mpr hi) e (yB _);omega
 |false=>
  refine(decide_eq_false ?_).symm;have:(List.range n).countP (λk=>HT.lexLt (f k) (f j))<=(List.range n).countP (λk=>HT.lexLt (f k) (f i)):=List.countP_mono_left λx _ h=>tR _ _ _ h e;omega
theorem m5 (h:∀i j,i<n->j<n->c i j=c' i j):∀t:PySem.W.KasT α,kIn n (λ_=>True) t->kRun c t=kRun c' t
 |.ret _,_=>rfl
 |.ask i j k,z=>by
  show kRun c (k (c i j))=kRun c' (k (c' i j));rw[h i j z.1 z.2.1];exact m5 h _ (z.2.2 _)
def tT (f:Nat->List Int) (i j:Nat):Bool:=HT.lexLt (f i) (f j)
theorem iH (f:Nat->List Int) (hn:1<=n):(kRun (tT f) (PySem.W.kas_sort n)).toList.Perm (List.range n)/\(kRun (tT f) (PySem.W.kas_sort n)).toList.Pairwise (λa b=>HT.lexLt (f b) (f a)=false):=by
 rw[m5 (n:=n) (c:=tT f) (c':=kC (rk n f)) (λi j hi hj=>C7 hi) _ (u9 hn)];obtain⟨h1,h2⟩:=BH (ky:=rk n f) hn;generalize kRun (kC (rk n f)) (PySem.W.kas_sort n)=p at h1 h2;have hp:p.toList.Perm (List.range n):=by simpa using h1.toList
 refine⟨hp,List.pairwise_iff_getElem.mpr λi j hi hj hij=>?_⟩;have hl:p.toList.length=n:=by rw[hp.length_eq,length_range]
 have hz:p.size=n:=by rw[<-hl,Array.length_toList]
 have z:=h2 i j (Nat.le_of_lt hij) (by omega);have e:∀k (hk:k<p.toList.length),p.getD k 0=p.toList[k]:=λk hk=>by
  have:k<p.size:=by omega
  simp[Array.getD,this]
 unfold kG at z;rw[e i hi,e j hj]at z;have m:∀k (hk:k<p.toList.length),p.toList[k]<n:=λk hk=>List.mem_range.mp (hp.mem_iff.mp (List.getElem_mem hk));rw[C7 (m j hj)];exact decide_eq_false (by omega)
def rG:D->Option (Option Nat×List Int)
 |.int i=>some (none,[i])
 |.tup ds=>(bE ds).bind λns=>some (some ns.length,ns)
 |_=>none
def jY:List D->Option (List (Option Nat)×List Int)
 |[]=>some ([],[])
 |d::ds=>(rG d).bind λa=>(jY ds).bind λr=>some (a.1::r.1,a.2++r.2)
def rH:D->Option (List (Option Nat)×List Int)
 |.tup ds=>jY ds
 |_=>none
theorem fO:∀ {ds:List D} {ns:List Int},bE ds=some ns->ds=ns.map D.int
 |[],ns,h=>by cases h;rfl
 |d::ds,ns,h=>by
  cases d with
  |int i=>
   obtain⟨ms,e1,e2⟩:=bind_some (show(bE ds).bind (λxs=>some (i::xs))=some ns from h);cases e2;rw[fO e1];rfl
  |_=>cases h
def wid:Option Nat->Nat
 |none=>1
 |some n=>n
theorem oY (h:rG d=some (a,f)):f.length=wid a:=by
 cases d with
 |int i=>cases h;rfl
 |tup ds=>obtain⟨ns,h1,h2⟩:=bind_some h;cases h2;rfl
 |_=>cases h
def flt (d:D):List Int:=match rH d with
 |some (_,f)=>f
 |none=>[]
def iW (ds:List D):Prop:=∃sh,sh≠[]/\∀d∈ds,∃f,rH d=some (sh,f)
instance (ds:List D):Decidable (iW ds):=Classical.propDecidable _
theorem gL {α:Type} (x:α):∀l:List α,(List.range l.length).map (λi=>l.getD i x)=l:=λl=>by
 apply List.ext_getElem
 ·simp
 ·intro i h1 h2;simp at h1;simp[h1]
section
variable {X:Cx} {pins:List (Addr×Obj)} {Y:St} {H:Hp} {s:Shared}
theorem yE:∀ {a b:List Int} (x y:List Int),a.length=b.length->HT.lexLt (a++x) (b++y)=if a=b then HT.lexLt x y else HT.lexLt a b
 |[],[],x,y,_=>by rw[if_pos rfl];rfl
 |[],_::_,_,_,h=>by cases h
 |_::_,[],_,_,h=>by cases h
 |u::a,v::b,x,y,h=>by
  rw[List.cons_append,List.cons_append,HT.lexLt_cons,HT.lexLt_cons,yE x y (Nat.succ.inj h)];by_cases q:u=v
  ·rw[if_pos q,if_pos q];by_cases r:a=b
   ·rw[if_pos r,if_pos (by rw[q,r])]
   ·rw[if_neg r,if_neg (λz=>r (List.cons.inj z).2)]
  ·rw[if_neg q,if_neg q,if_neg (λz=>q (List.cons.inj z).1)]
theorem rJ:∀ (a b:List Int),eqL (a.map D.int) (b.map D.int)=decide (a=b)
 |[],[]=>by simp[eqL]
 |[],_::_=>by simp[eqL]
 |_::_,[]=>by simp[eqL]
 |x::a,y::b=>by
  show((x==y)&&eqL (a.map D.int) (b.map D.int))=_;rw[rJ a b];by_cases q:x=y
  ·by_cases r:a=b
   ·simp[q,r]
   ·simp[q,r]
  ·simp[q]
theorem m8 (h:rG d=some z):okE d=true/\dep d<=1:=by
 cases d with
 |int i=>exact⟨rfl,Nat.zero_le _⟩
 |tup ds=>
  obtain⟨ns,h1,_⟩:=bind_some h;rw[fO h1];have:∀ns:List Int,okL (ns.map D.int)=true/\cG (ns.map D.int)<=0:=λns=>by
   induction ns with
   |nil=>exact⟨rfl,le_refl _⟩
   |cons n ns ih=>
    refine⟨?_,?_⟩
    ·show(okE (.int n)&&okL (ns.map D.int))=true;rw[ih.1];rfl
    ·show max (dep (.int n)) (cG (ns.map D.int))<=0;have:dep (.int n)=0:=rfl;have:=ih.2;omega
  exact⟨(this ns).1,by have:=(this ns).2;show cG _+1<=1;omega⟩
 |_=>cases h
theorem yF (I:Inv X pins Y H s) (hu:A.units+1<cLine) (h1:rG d=some (a,f)) (h2:rG e=some (a,g)) (ix:Is X.K H d x) (iy:Is X.K H e y) (rx:RelV x p) (ry:RelV y q):
  SeqAt.EqAt A s p q (decide (f=g))/\∀ (b:Bool) (Q:Bool->Shared->Prop),(b=true->a=none)->Q (HT.lexLt f g) s->wpAny (model X.prog X.w) A (oneLt' b p q) Q (λ_ _=>False) s:=by
 have eq:=xF I 1 A d e x y p q (m8 h1).2 (by omega) (m8 h1).1 (m8 h2).1 ix iy rx ry
 cases d with
 |int i=>
  cases h1;cases e with
  |int j=>
   cases h2;refine⟨?_,λb Q hb hq=>?_⟩
   ·have z:eqD (.int i) (.int j)=decide ([i]=[j]):=by
     show(i==j)=_;by_cases c:i=j
     ·simp[c]
     ·simp[c]
    rw[<-z];exact eq
   ·cases(show x=.int i from ix);cases(show y=.int j from iy);obtain⟨t,rfl⟩:=rx;obtain⟨u,rfl⟩:=ry;have hq':Q (decide (i<j)) s:=by
     have z:HT.lexLt [i] [j]=decide (i<j):=by
      rw[HT.lexLt_cons];by_cases c:i=j
      ·rw[if_pos c];exact(decide_eq_false (by omega)).symm
      ·rw[if_neg c]
     rw[<-z];exact hq
    cases b with
    |true=>exact oneLt_int hq'
    |false=>exact PySem.W.kat_one _ _ (lt_int hq')
  |tup es=>obtain⟨ms,_,z⟩:=bind_some h2;cases z
  |_=>cases h2
 |tup ds=>
  obtain⟨ns,h3,h4⟩:=bind_some h1;injection h4 with h4;injection h4 with h4 h4';subst h4 h4';cases e with
  |int j=>cases h2
  |tup es=>
   obtain⟨ms,h5,h6⟩:=bind_some h2;injection h6 with h6;injection h6 with h7 h8;subst h8;refine⟨?_,λb Q hb hq=>?_⟩
   ·have z:eqD (.tup ds) (.tup es)=decide (ns=ms):=by
     show eqL ds es=_;rw[fO h3,fO h5,rJ]
    rw[<-z];exact eq
   ·cases b with
    |true=>cases hb rfl
    |false=>
     obtain⟨a1,xs,rfl,t1,l1⟩:=ix;obtain⟨a2,ys,rfl,t2,l2⟩:=iy;rw[ce h3 l1]at t1;rw[ce h5 l2]at t2;cases rx;cases ry;obtain⟨its,r1,p1,_⟩:=I.tuple t1;obtain⟨its2,r2,p2,_⟩:=I.tuple t2;exact PySem.W.kat_one _ _ (HT.lt_tupInts p1 p2 (uX r1) (uX r2) (by omega) hq)
  |_=>cases h2
 |_=>cases h1
theorem oZ (I:Inv X pins Y H s) (hu:A.units+1<cLine):∀ {ds es:List D} {sh:List (Option Nat)} {f g:List Int} {xs ys:List V} {ps qs:List Value} (i:Nat),jY ds=some (sh,f)->jY es=some (sh,g)->IsL X.K H ds xs->IsL X.K H es ys->Vals xs ps->Vals ys qs->
  (b=true->i=0->sh.head?=some none)->fin=false->Q (HT.lexLt f g) s->PySem.W.KatLex X.prog X.w A b fin Q (ps.zip qs) i s
 |[],[],sh,f,g,xs,ys,ps,qs,i,h1,h2,l1,l2,r1,r2,hb,hf,hq=>by
  cases h1;cases h2;cases(show xs=[]from l1);cases(show ys=[]from l2);cases r1;cases r2;rw[hf];exact hq
 |[],e::es,sh,f,g,xs,ys,ps,qs,i,h1,h2,l1,l2,r1,r2,hb,hf,hq=>by
  cases h1;obtain⟨a,_,h2⟩:=bind_some h2;obtain⟨r,_,h2⟩:=bind_some h2;cases h2
 |d::ds,[],sh,f,g,xs,ys,ps,qs,i,h1,h2,l1,l2,r1,r2,hb,hf,hq=>by
  cases h2;obtain⟨a,_,h1⟩:=bind_some h1;obtain⟨r,_,h1⟩:=bind_some h1;cases h1
 |d::ds,e::es,sh,f,g,xs,ys,ps,qs,i,h1,h2,l1,l2,r1,r2,hb,hf,hq=>by
  obtain⟨⟨a,f1⟩,h3,h1⟩:=bind_some h1;obtain⟨⟨s1,f2⟩,h4,h1⟩:=bind_some h1;cases h1;obtain⟨⟨a',g1⟩,h5,h2⟩:=bind_some h2;obtain⟨⟨s2,g2⟩,h6,h2⟩:=bind_some h2;injection h2 with h2;injection h2 with h7 h8;injection h7 with h9 h10;dsimp only at h8 h9 h10;subst h8 h9 h10;obtain⟨x,xr,rfl,ix,l1⟩:=l1;obtain⟨y,yr,rfl,iy,l2⟩:=l2;cases r1 with
  |cons rx r1=>
   cases r2 with
   |cons ry r2=>
    obtain⟨c1,c2⟩:=yF I hu h3 h5 ix iy rx ry;dsimp only at hq;rw[yE f2 g2 ((oY h3).trans (oY h5).symm)]at hq;rw[List.zip_cons_cons];refine PySem.W.kat_cons (c1 X.prog X.w _ _ ?_);by_cases q:f1=g1
    ·rw[if_pos q]at hq;rw[decide_eq_true q];exact PySem.W.kat_yes (oZ I hu (i+1) h4 h6 l1 l2 r1 r2 (λ_ z=>absurd z (by omega)) hf hq)
    ·rw[if_neg q]at hq;rw[decide_eq_false q];refine PySem.W.kat_no (c2 _ _ (λz=>?_) hq);rw[and_eq_true,beq_iff_eq]at z;have:=hb z.1 z.2;injection this
end
section
variable {X:Cx} {a:Expr} {p pos:Pos}
theorem fu {as:List α} {bs:List β} (h:Paired F as bs) (hi:i<as.length) (x:α) (y:β):F (as.getD i x) (bs.getD i y):=by
 obtain⟨z,e,f⟩:=fJ h (i:=i) (x:=as[i]) (getElem?_eq_getElem hi);rw[List.getD_eq_getElem?_getD,List.getD_eq_getElem?_getD,getElem?_eq_getElem hi,e];exact f
theorem gM {as:List α} {bs:List β} (h:Paired F as bs) (x:α) (y:β):∀ {l:List Nat},(∀i∈l,i<as.length)->Paired F (l.map λi=>as.getD i x) (l.map λi=>bs.getD i y)
 |[],_=>.nil
 |i::l,z=>.cons (fu h (z i mem_cons_self) x y) (gM h x y λj hj=>z j (mem_cons_of_mem _ hj))
theorem ng (h:rH d=some z):∃ds,d=.tup ds/\jY ds=some z:=by
 cases d with
 |tup ds=>exact⟨ds,rfl,h⟩
 |_=>cases h
def kindT (sh:List (Option Nat)):Bool:=decide (sh.head?=some none)
theorem BI {Y:St} (I:Inv X pins Y H s) (hu:A.units+1<cLine) (il:IsL X.K H ds xs) (r:Vals xs us) (hne:sh≠[]) (hs:∀d∈ds,∃f,rH d=some (sh,f)) {a:Addr} (ha:s.heap.objs.size<=a) (h1:Heap) (k1:∀b o,s.heap.get? b=some o->h1.get? b=some o):SortBy X.prog X.w A {s with heap:=h1} a us (tuples' (kindT sh)) (tT λi=>flt (ds.getD i .non)):=by
 have keep:∀h',(∀b o,b≠a->h1.get? b=some o->h'.get? b=some o)->Inv X pins Y H {s with heap:=h'}:=λh' k=>I.kept (t':=s.toks) λb o q=>k b o (Nat.ne_of_lt (lt_of_lt_of_le (Heap.lt_size q) ha)) (k1 b o q);have len1:=il.len;have len2:=r.length;refine⟨λh' k h2 Q hq=>?_,λh' k i j hi hj Q hq=>?_⟩
 ·have J:=keep h' k;-- the first items
  have first:∀ {ds:List D} {xs:List V} {us:List Value},IsL X.K H ds xs->Vals xs us->(∀d∈ds,∃f,rH d=some (sh,f))->∃fs,PySem.W.KatTups h' us fs/\fs.length=us.length/\∀v∈fs,∀M,PySem.W.Looks M h' (typeOf v) (if kindT sh then .type "int"else .type "tuple"):=by
   intro ds;induction ds with
   |nil=>
    intro xs us il r _;cases(show xs=[]from il);cases r;exact⟨[],trivial,rfl,λ_ z=>nomatch z⟩
   |cons d ds ih=>
    intro xs us il r hs;obtain⟨x,xr,rfl,ix,il⟩:=il;cases r with
    |cons rx r=>
     obtain⟨fs,q1,q2,q3⟩:=ih il r λe he=>hs e (mem_cons_of_mem _ he);obtain⟨f,e⟩:=hs d mem_cons_self;obtain⟨is,rfl,e⟩:=ng e;obtain⟨b,ys,rfl,t,l⟩:=ix;cases rx;obtain⟨its,rv,⟨o,p1,p2,n,p3⟩,_⟩:=J.tuple t;cases is with
     |nil=>cases e;exact absurd rfl hne
     |cons i0 is=>
      obtain⟨⟨a0,f1⟩,e1,e⟩:=bind_some e;obtain⟨⟨s1,f2⟩,e2,e⟩:=bind_some e;cases e;obtain⟨y,yr,rfl,iy,l⟩:=l;cases rv with
      |@cons _ v _ vr ry rv=>
       refine⟨v::fs,⟨⟨b,o,_,n,rfl,p1,p2,p3,rfl⟩,q1⟩,by rw[length_cons,length_cons,q2],λv' hv M=>?_⟩;rcases mem_cons.mp hv with rfl|hv
       ·cases i0 with
        |int i=>
         cases e1;cases(show y=.int i from iy);obtain⟨tk,rfl⟩:=ry;rw[show kindT (none::s1)=true from rfl,if_pos rfl];exact PySem.W.Looks.of_pure rfl
        |tup js=>
         obtain⟨ns,_,z⟩:=bind_some e1;cases z;obtain⟨c,zs,rfl,t2,l2⟩:=iy;cases ry;obtain⟨its2,rv2,⟨o2,w1,w2,_⟩,_⟩:=J.tuple t2;have kf:∀m,kindT (some m::s1)=false:=λ_=>rfl;rw[kf,if_neg (by decide)];rw[<-w2];exact(PySem.W.Looks.ld w1).andThen .now
        |_=>cases e1
       ·exact q3 v' hv M
  obtain⟨fs,q1,q2,q3⟩:=first il r hs
  refine PySem.W.kat_kind (T:=if kindT sh then .type "int"else .type "tuple") q1 (by omega) (λv hv=>q3 v hv _) (by cases kindT sh<;>decide) ?_;have e:((if kindT sh then Value.type "int"else .type "tuple") !=Value.type "tuple")=kindT sh:=by cases kindT sh<;>decide
  rw[e];exact hq
 ·have J:=keep h' k;have hi':i<ds.length:=by omega
  have hj':j<ds.length:=by omega
  have ix:=fu il.paired hi' .non .non;have iy:=fu il.paired hj' .non .non;have rx:=fu r (i:=i) (by omega) .non .none;have ry:=fu r (i:=j) (by omega) .non .none;obtain⟨f,e1⟩:=hs (ds.getD i .non) (by rw[List.getD_eq_getElem?_getD,getElem?_eq_getElem hi'];exact List.getElem_mem hi');obtain⟨g,e2⟩:=hs (ds.getD j .non) (by rw[List.getD_eq_getElem?_getD,getElem?_eq_getElem hj'];exact List.getElem_mem hj');have hq:Q (HT.lexLt (flt (ds.getD i .non)) (flt (ds.getD j .non))) {s with heap:=h'}:=hq;generalize ds.getD i .non=d at ix e1 hq;generalize ds.getD j .non=e at iy e2 hq;generalize xs.getD i .non=x at ix rx;generalize xs.getD j .non=y at iy ry;generalize us.getD i .none=u at rx;generalize us.getD j .none=v at ry;unfold flt at hq;rw[e1,e2]at hq;dsimp only at hq;obtain⟨as,rfl,e1⟩:=ng e1;obtain⟨bs,rfl,e2⟩:=ng e2;obtain⟨b1,x1,rfl,t1,l1⟩:=ix;obtain⟨b2,x2,rfl,t2,l2⟩:=iy;cases rx;cases ry;obtain⟨it1,rv1,⟨o1,p1,_,n1,p3⟩,_⟩:=J.tuple t1;obtain⟨it2,rv2,⟨o2,w1,_,n2,w3⟩,_⟩:=J.tuple t2;have sz:∀ {ds:List D} {sh:List (Option Nat)} {f:List Int},jY ds=some (sh,f)->ds.length=sh.length:=λ{ds}=>by
   induction ds with
   |nil=>intro sh f h;cases h;rfl
   |cons d ds ih=>
    intro sh f h;obtain⟨z,_,h⟩:=bind_some h;obtain⟨⟨r1,r2⟩,h2,h⟩:=bind_some h;cases h;rw[length_cons,length_cons,ih h2]
  have z1:it1.length=sh.length:=by rw[<-rv1.length,<-l1.len,sz e1]
  have z2:it2.length=sh.length:=by rw[<-rv2.length,<-l2.len,sz e2]
  refine PySem.W.kat_lt p1 p3 w1 w3 (oZ J hu 0 e1 e2 l1 l2 rv1 rv2 (λhb _=>of_decide_eq_true hb) (decide_eq_false ?_) hq);show¬it1.length<it2.length;omega
end
section
variable {X:Cx} {a:Expr} {p p2 pos pos2:Pos}
theorem nj:∀ (l:List Value) (k:Int),(∀ (i:Nat) (v:Value),l[i]?=some v->∃t,v=Value.int (k+(i:Int)) t)->Vals ((List.range l.length).map λ(i:Nat)=>V.int (k+(i:Int))) l
 |[],_,_=>.nil
 |v::l,k,h=>by
  rw[length_cons,List.range_succ_eq_map,List.map_cons,List.map_map];obtain⟨t,e⟩:=h 0 v rfl;refine .cons ⟨t,by simpa using e⟩ ?_;have:=nj l (k+1) λi w q=>by
   obtain⟨t,e⟩:=h (i+1) w (by simpa using q);exact⟨t,by rw[e];congr 1;omega⟩
  have e2:((List.range l.length).map λ(i:Nat)=>V.int (k+1+(i:Int)))=(List.range l.length).map ((λ(i:Nat)=>V.int (k+(i:Int)))∘Nat.succ):=by
   apply List.map_congr_left;intro i _;show V.int _=V.int _;congr 1;simp;omega
  rw[<-e2];exact this
def tLr (ta:TA):TE:=λY H Q=>ta Y H λvs H1=>∃j:Int,vs=[.int j]/\inR j/\j<1000000/\∀q,H1 q=none->Q (.ref q) (upd H1 q (.lst ((List.range j.toNat).map λ(i:Nat)=>V.int (i:Int))))
theorem BJ (hc:X.calm=true) (hg:Gl X "list") (hm:X.mg "list"=none) (hg2:Gl X "range") (hm2:X.mg "range"=none) (ha:PA X [a] ta) (hs:starEach [a] X.env=[(false,eval a X.env)]):
  PE X (.Call (.Name "list" p) [.Call (.Name "range" p2) [a] [] pos2] [] pos) (tLr ta):=by
 intro pins s Y H Q I h
 refine wpAny_Call_Name_kw (gk I hg hm HR (PyProof.Rows.callWith_type1 ?_ rfl rfl))
 show wpAny _ _ (spliced ((false,eval (.Call (.Name "range" p2) [a] [] pos2) X.env)::[])) _ _ s
 refine Calls.spliced_cons ?_
 refine wpAny_Call_Name_kw (gk I hg2 hm2 boot_range (PyProof.Rows.callWith_type1 (thn (ha pos2 pins s Y H _ I h) λus s1 ⟨vs,H1,I1,r1,q1⟩=>?_) (by rw[hs];rfl) rfl))
 obtain⟨j,rfl,hj,hj2,q⟩:=q1
 obtain⟨u,rfl,ru⟩:=gp r1
 obtain⟨t,rfl⟩:=ru
 have hj':-(2^62)<=j/\j<2^62:=hj
 refine call_range_1 (Calls.spliced_nil ?_)
 have up:∀d o,s1.heap.get? d=some o->(s1.heap.push {cls:=.type "range",data:=.fields #[.int 0 s1.toks,.int j t,.int 1 (s1.toks+1)]}).get? d=some o:=λd o e=>Heap.get?_push_of_some _ e
 have I2:Inv X pins Y H1 {s1 with heap:=s1.heap.push {cls:=.type "range",data:=.fields #[.int 0 s1.toks,.int j t,.int 1 (s1.toks+1)]},toks:=s1.toks+1+1}:=I1.kept up
 have hn:Builtin.Range.rangeSize 0 j 1=(j.toNat:Nat):=by rw[rangeSize_one];split<;>omega
 refine call_list_range (n:=j.toNat) (I1.ok.hd hc) (IsRange.new ..) (small_one (by omega) (by omega) hj'.1 hj'.2) hn (by omega) λg tk acc c k hgS hi=>?_
 have fr:H1 (s1.heap.push {cls:=.type "range",data:=.fields #[.int 0 s1.toks,.int j t,.int 1 (s1.toks+1)]}).objs.size=none:=I2.hok.fresh (le_refl _)
 refine⟨.ref _,_,I2.laid (t':=tk) (o:=.lst ((List.range j.toNat).map λ(i:Nat)=>V.int (i:Int))) k (le_refl _) ⟨?_,acc.toList,c,?_,by simpa using hgS⟩,rfl,q _ fr⟩
 ·rw[length_map,length_range,sizeLine_eq];omega
 ·have:=nj acc.toList 0 λi v e=>by
   obtain⟨t,z⟩:=hi.2 i v (by rw[<-Array.getElem?_toList];exact e);exact⟨t,by rw[z];congr 1;omega⟩
  rw[Array.length_toList,hi.1]at this;simpa using this
def lrD:List D->Option (List D):=un1 λd=>(ra d).bind λj=>if inR j/\j<1000000 then some (lq 0 j.toNat)else none
theorem BK (hc:X.calm=true) (hg:Gl X "list") (hm:X.mg "list"=none) (hg2:Gl X "range") (hm2:X.mg "range"=none) (ha:PX X [a] fa) (hs:starEach [a] X.env=[(false,eval a X.env)]):
  PF X (.Call (.Name "list" p) [.Call (.Name "range" p2) [a] [] pos2] [] pos) (λU=>(fa U).bind lrD):=λO U=>(BJ hc hg hm hg2 hm2 (ha O U) hs).imp λY H Q ⟨E,ds,q,k⟩=>by
 obtain⟨as,e1,q⟩:=bind_some q
 refine⟨E,as,e1,λvs H1 s1 il=>?_⟩
 obtain⟨c,rfl,q2⟩:=cF q
 obtain⟨j,q3,q4⟩:=bind_some q2
 obtain⟨h1,h2⟩:=ay q4
 subst h2
 obtain⟨v,rfl,h⟩:=is1 il
 cases intD_some q3
 refine⟨j,by rw[show v=.int j from h],h1.1,h1.2,λb hb=>k b _ H1 s1 hb ?_⟩
 have e:lq 0 j.toNat=((List.range j.toNat).map λ(i:Nat)=>(i:Int)).map D.int:=by unfold lq;rw[List.map_map];apply List.map_congr_left;intro i _;simp
 have e2:((List.range j.toNat).map λ(i:Nat)=>V.int (i:Int))=((List.range j.toNat).map λ(i:Nat)=>(i:Int)).map V.int:=by rw[List.map_map];rfl
 rw[e,e2]
 exact mU _
end
section
variable {X:Cx} {e:Expr} {pos:Pos}
end
section
variable {X:Cx} {e:Expr} {pos:Pos}
def yG (n:Nat) (d:D):Option Nat:=match d with
 |.int i=>if 0<=i/\i<=(n:Int)then some i.toNat else none
 |_=>none
theorem pd (h:yG n d=some k):d=.int (k:Int)/\k<=n:=by
 unfold yG at h;split at h
 ·split at h
  ·cases h;rename_i i c;exact⟨by rw[Int.toNat_of_nonneg c.1],by omega⟩
  ·cases h
 ·cases h
end
section
variable {X:Cx} {e:Expr} {pos:Pos}
theorem PS.ex {e} {ι:Type} {t:ι->TS} (h:∀z,PS X e (t z)):PS X e (λD Y H=>∃z,t z D Y H):=λpins s Y H D I ⟨z,q⟩=>h z pins s Y H D I q
theorem EL {st} (is:List Nat) (h:PR X st F):PR X st (λU=>F (frzS is U)):=λB O U=>(PS.ex λO'=>h B O' (frzS is U)).imp λEn Y H ⟨E,out,q,k⟩=>by
 obtain⟨O',E',le⟩:=E.frzS is;exact⟨O',E',out,q,k.mono le⟩
end
def n5 (k:Nat) {α:Type} (l:List α) (_:α):List α:=l.eraseIdx k
theorem DeepL.del {K}:∀ {ds:List D} {xs:List V} {A:List Addr} (k:Nat),DeepL K M H ds xs A->∃A',A'.Sublist A/\DeepL K M H (ds.eraseIdx k) (xs.eraseIdx k) A'
 |[],xs,A,k,h=>by obtain⟨rfl,rfl⟩:=h;exact⟨[],List.Sublist.refl _,⟨rfl,rfl⟩⟩
 |d::ds,xs,A,0,⟨x,r,A1,A2,e1,e2,g1,g2⟩=>by
  subst e1 e2;exact⟨A2,List.sublist_append_right _ _,g2⟩
 |d::ds,xs,A,k+1,⟨x,r,A1,A2,e1,e2,g1,g2⟩=>by
  subst e1 e2;obtain⟨B,s,q⟩:=DeepL.del k g2;exact⟨A1++B,List.Sublist.append_left s _,⟨x,_,A1,B,rfl,rfl,g1,q⟩⟩
theorem IsL.del {K}:∀ {ds:List D} {xs:List V} (k:Nat),IsL K M ds xs->IsL K M (ds.eraseIdx k) (xs.eraseIdx k)
 |[],xs,k,h=>by cases(show xs=[]from h);exact rfl
 |d::ds,xs,0,⟨x,r,e,g1,g2⟩=>by subst e;exact g2
 |d::ds,xs,k+1,⟨x,r,e,g1,g2⟩=>by subst e;exact⟨x,_,rfl,g1,IsL.del k g2⟩
theorem C8 (k:Nat):lsW (n5 k):=λ{K M H ds xs A A1 d v} h q nd=>by
 obtain⟨A',s,q1⟩:=DeepL.del k h;exact⟨A',q1,(List.nodup_append.mp nd).1.sublist s,λb hb=>.inl (s.subset hb)⟩
theorem C9 (k:Nat):lsI (n5 k):=λh _=>IsL.del k h
section
variable {X:Cx} {e:Expr} {pos:Pos}
end
theorem DeepL.subT {K} (f:{α:Type}->List α->α->List α) (hf:lsX f) (lc:lfD c=true) (lf:lfD d=true) (hi:Is K M d v):∀ {ds:List D} {xs:List V} {A:List Addr} {j:Nat},DeepL K M H ds xs A->A.Nodup->ds[j]?=some (.tup [c,.lst ds2])->
  ∃b u a ys,xs[j]?=some (.ref b)/\M b=some (.tup [u,.ref a])/\a∈A/\H a=some (.lst ys)/\ds2.length=ys.length/\DeepL K M (upd H a (.lst (f ys v))) (ds.set j (.tup [c,.lst (f ds2 d)])) xs A
 |[],xs,A,j,h,nd,e=>by simp at e
 |d0::ds,xs,A,0,⟨x,r,A1,A2,e1,e2,h1,h2⟩,nd,e=>by
  simp at e;subst e;obtain⟨b,ts,z1,z2,l⟩:=h1;obtain⟨u,r2,B1,B2,y1,y2,l1,l2⟩:=l;have hB1:B1=[]:=Deep.lf c u B1 lc l1;obtain⟨x3,r3,C1,C2,w1,w2,l3,l4⟩:=l2;obtain⟨l5,l6⟩:=l4;subst l5 l6 hB1;obtain⟨a,ys,A',g1,g2,g3,l⟩:=l3;subst z1 e1 g1 w1 y1;have z3:M b=some (.tup [u,.ref a]):=by
   rcases z2 with z2|⟨z2,_⟩
   ·exact z2
   ·have:(lfD c&&(lfD (.lst ds2)&&true))=true:=z2;rw[and_eq_true]at this;exact absurd this.2 (by show¬ ((false&&true)=true);decide)
  have hA1:A1=a::A':=by rw[y2,w2,g3];simp
  subst e2 hA1;have n1:a ∉ A'/\a ∉ A2:=by
   have:=(List.nodup_cons.mp (show(a::(A'++A2)).Nodup from nd)).1;simp at this;exact this
  have fr:∀ (L:List Addr),a ∉ L->∀b∈L,∀o,H b=some o->upd H a (.lst (f ys v)) b=some o:=λL n b hb o q=>by rw[ag (show b≠a fromλz=>n (z▸hb))];exact q
  refine⟨b,u,a,ys,rfl,z3,by simp,g2,DeepL.len l,_,_,a::A',A2,rfl,rfl,⟨b,_,rfl,.inl z3,u,[.ref a],[],a::A',rfl,rfl,Deep.frame (NL.of (Same.refl _)) _ _ _ (λ_ h=>(nomatch h)) l1,.ref a,[],a::A',[],rfl,by simp,⟨a,f ys v,A',rfl,upd_same,rfl,?_⟩,rfl,rfl⟩,DeepL.frame (NL.of (Same.refl _)) _ _ _ (fr A2 n1.2) h2⟩;exact hf (DeepL.frame (NL.of (Same.refl _)) _ _ _ (fr A' n1.1) l) (Is.deep d v lf hi)
 |d0::ds,xs,A,j+1,⟨x,r,A1,A2,e1,e2,h1,h2⟩,nd,e=>by
  subst e1 e2;obtain⟨n1,n2,n3⟩:=List.nodup_append.mp nd;obtain⟨b,u,a,ys,f0,f1,f2,f3,f4,f5⟩:=DeepL.subT f hf lc lf hi h2 n2 (show ds[j]?=some (.tup [c,.lst ds2])by simpa using e);have na:a ∉ A1:=λz=>n3 a z a f2 rfl;refine⟨b,u,a,ys,by simpa using f0,f1,mem_append_right _ f2,f3,f4,x,r,A1,A2,rfl,rfl,Deep.frame (NL.of (Same.refl _)) _ _ _ (λb hb o q=>?_) h1,f5⟩;rw[ag (show b≠a fromλz=>na (z▸hb))];exact q
section
variable {K:Frag} {B:Bs} {O:Addr->Bool} {Y:St} {H:Hp} {U:Ev}
theorem EnvOk.changeT (E:EnvOk K B O Y H U) (f:{α:Type}->List α->α->List α) (hf:lsX f) {i j:Nat} (h:U[i]?=some (some (.deep,.lst ds))) (hj:ds[j]?=some (.tup [c,.lst ds2])) (lc:lfD c=true) (lf:lfD d=true) (hi:Is K (msk O H) d v):
  ∃a xs b u a2 ys,Y[i]?=some (some (.ref a))/\H a=some (.lst xs)/\ds.length=xs.length/\xs[j]?=some (.ref b)/\H b=some (.tup [u,.ref a2])/\H a2=some (.lst ys)/\ds2.length=ys.length/\
   EnvOk K B O Y (upd H a2 (.lst (f ys v))) (U.set i (some (.deep,.lst (ds.set j (.tup [c,.lst (f ds2 d)])))))/\Same (msk O H) (msk O (upd H a2 (.lst (f ys v)))):=by
 obtain⟨F,h1,h2,h3,h4⟩:=E.fp
 obtain⟨v0,e0,o0⟩:=h1 i _ h
 obtain⟨a,xs,A',z1,z2,z3,l⟩:=o0
 subst z1
 have nd:=h2 i
 rw[z3]at nd
 obtain⟨nA,ndA⟩:=List.nodup_cons.mp nd
 obtain⟨b,u,a2,ys,f0,f1,f2,f3,f4,f5⟩:=DeepL.subT f hf lc lf hi l ndA hj
 have ha2:a2∈F i:=by rw[z3];exact mem_cons_of_mem _ f2
 obtain⟨o2,b2⟩:=h4 i a2 ha2
 have me:msk O (upd H a2 (.lst (f ys v)))=msk O H:=fK o2
 have le:Same (msk O H) (msk O (upd H a2 (.lst (f ys v)))):=by rw[me];exact Same.refl _
 have ne:a≠a2:=λz=>nA (z▸f2)
 refine⟨a,xs,b,u,a2,ys,e0,z2,DeepL.len l,f0,msk_le _ _ f1,f3,f4,⟨λb o q=>?_,E.bdom,E.sub,λb hb=>?_,by rw[List.length_set];exact E.len,F,λk s q=>?_,h2,h3,h4⟩,le⟩
 ·rw[ag (ak q b2)];exact E.same b o q
 ·by_cases e:b=a2
  ·subst e;exact .inl ⟨_,upd_same⟩
  ·rw[ag e];exact E.lis b hb
 ·rcases get_set_some q with⟨e,q'⟩|⟨e,q'⟩
  ·cases q';subst e;refine⟨.ref a,e0,a,xs,A',rfl,by rw[ag ne];exact z2,z3,?_⟩;rw[me];exact f5
  ·obtain⟨w,e1,o1⟩:=h1 k s q';refine⟨w,e1,o1.frame le λb hb o z=>?_⟩;have:b≠a2:=λz2=>e (h3 k i a2 (z2▸hb) ha2);rw[ag this];exact z
end
section
variable {X:Cx} {e:Expr} {pos:Pos}
def rK (ds:List D):Option (Nat×D×List D):=if ds.isEmpty=true then none else match ds[ds.length-1]? with
 |some (.tup [c,.lst ds2])=>if lfD c=true then some (ds.length-1,c,ds2)else none
 |_=>none
theorem tU (h:rK ds=some (m,c,ds2)):ds.length=m+1/\ds[m]?=some (.tup [c,.lst ds2])/\lfD c=true:=by
 unfold rK at h;split at h
 ·cases h
 ·rename_i ne;split at h
  ·rename_i c' ds2' e;obtain⟨lc,z⟩:=ay h;have z':(ds.length-1,c',ds2')=(m,c,ds2):=z;injection z' with z1 z2;injection z2 with z2 z3;subst z1 z2 z3;refine⟨?_,e,lc⟩;cases ds with
   |nil=>exact absurd rfl ne
   |cons _ _=>simp
  ·cases h
def wq (i j:Nat) (R:Vv->Option D):Ev->Option Out:=λU=>(jk U i).bind λds=>(rK ds).bind λw=>(jk U j).bind λes=>(R (vw U)).bind λy=>(yG es.length y).bind λk=>(es[k]?).bind λd=>
 if i≠j/\lfD d=true/\es.length<big/\w.2.2.length+1<big then some (.nx ((U.set j (some (.deep,.lst (es.eraseIdx k)))).set i (some (.deep,.lst (ds.set w.1 (.tup [w.2.1,.lst (w.2.2++[d])]))))))else none
theorem fP (h:jk U i=some ds):U[i]?=some (some (.deep,.lst ds)):=by
 obtain⟨⟨c,ds'⟩,p1,p2⟩:=bind_some h;obtain⟨p3,p4⟩:=ay p2;have p3:c=.deep:=p3;have p4:ds'=ds:=p4;subst p3 p4;exact(eY p1).1
theorem EM (i j:Nat) (h:PP X e R) (hk1:PP X k1 λ_=>some (.int (-1))) (hk2:PP X k2 λ_=>some (.int 1)) (hx1:fI k1) (hx2:fI k2) (hN:X.N[i]?=some x) (hv:Vis X.env.scope x) (hd:(x==("__debug__":Str))=false) (hcd:(x==("__classdict__":Str))=false) (hN2:X.N[j]?=some y) (hv2:Vis X.env.scope y) (hd2:(y==("__debug__":Str))=false) (hcd2:(y==("__classdict__":Str))=false) (hst:starEach [e] X.env=(false,eval e X.env)::starEach [] X.env) (hline:(apos.endLine==cpos.line)=true) (hline2:(apos2.endLine==cpos2.line)=true):
  PR X (.Expr (.Call (.Attribute (.Subscript (.Subscript (.Name x px) k1 sp1) k2 sp2) "append" apos) [.Call (.Attribute (.Name y py) "pop" apos2) [e] [] cpos2] [] cpos) pos) (wq i j R):=λB O U=>
 (ib (oI PySem.F.plainAttrs_list PySem.F.slot_list_append PySem.F.type_list_append jP (xf ix_tup (xf ix_list (b7 hN hv hd hcd) (hk1 noO (vw U)) hx1) (hk2 noO (vw U)) hx2)
  (bK (oI PySem.F.plainAttrs_list PySem.F.slot_list_pop PySem.F.type_list_pop qR (b7 hN2 hv2 hd2 hcd2) (bK (h noO (vw U)) pa_nil hst) rfl (by rw[hst];rfl) hline2 hst rfl) pa_nil rfl) rfl rfl hline rfl rfl)).imp λEn Y H ⟨E,o,q,k⟩=>by
 obtain⟨ds,q1,q⟩:=bind_some q
 obtain⟨⟨m,c,ds2⟩,q2,q⟩:=bind_some q
 obtain⟨es,q3,q⟩:=bind_some q
 obtain⟨yd,q4,q⟩:=bind_some q
 obtain⟨n,q5,q⟩:=bind_some q
 obtain⟨d,q6,q⟩:=bind_some q
 obtain⟨⟨nij,ld,hz1,hz2⟩,q⟩:=ay q
 subst q
 have h0:=fP q1
 have h00:=fP q3
 obtain⟨hm,hjm,lc⟩:=tU q2
 obtain⟨ey,hn⟩:=pd q5
 subst ey
 have hz2:ds2.length+1<big:=hz2
 have hne:j≠i:=λz=>nij z.symm
 obtain⟨a,xs,b,u,a2,ys,g1,g2,g3,g4,g5,g6,g7,_⟩:=E.changeT gH yi (d:=.non) (v:=.non) h0 hjm lc rfl rfl
 refine⟨.ref a,g1,E.view,_,rfl,λyv H1 s1 iy=>?_⟩
 cases(show yv=.int (-1)from iy)
 have E1:=E.grow s1
 refine⟨a,xs,-1,.ref b,rfl,rfl,SqL.of (s1 _ _ g2),?_,E1.view,_,rfl,λyv2 H2 s2 iy2=>?_⟩
 ·have e:ixN xs.length (-1)=some m:=by
   unfold ixN
   rw[if_neg (by decide),<-g3,hm]
   rw[if_pos (by omega)]
   congr 1
   omega
  unfold atI
  rw[e];exact g4
 cases(show yv2=.int 1 from iy2)
 have E2:=E1.grow s2
 have s12:=s1.trans s2
 refine⟨b,[u,.ref a2],1,.ref a2,rfl,rfl,SqT.of (s12 _ _ g5),rfl,.inl ⟨rfl,_,SqL.of (s12 _ _ g6)⟩,?_⟩
 obtain⟨l,zs,e1,e2,hl,ol,bl⟩:=E2.ownAt h00 (by decide)
 refine⟨.ref l,e1,.inl ⟨rfl,_,SqL.of e2⟩,E2.view,_,q4,λyv3 H3 s3 iy3=>?_⟩
 cases(show yv3=.int (n:Int)from iy3)
 have E3:=E2.grow s3
 have s13:=s12.trans s3
 have E4:=E3.moreS (d:=.int (n:Int)) (v:=.int (n:Int)) rfl
 have ex:extS (.int (n:Int))=(.deep,.int (n:Int)):=rfl
 rw[ex]at E4
 obtain⟨l',zs',f1,f2,f3,O5,E5,s5⟩:=E4.change (n5 n) (C8 n) (C9 n) h00 (by decide)
 rw[e1]at f1
 cases f1
 have hb:big<2^63:=by rw[<-gz];decide
 have hn1:n<zs'.length:=by rw[<-f3];exact(List.getElem?_eq_some_iff.mp q6).1
 have hn2:zs'.length<big:=by rw[<-f3];exact hz1
 -- the item
 have iv:Is X.K H3 d zs'[n]:=by
  obtain⟨F,h1,_⟩:=E3.fp
  obtain⟨w,w1,a',xs',A',z1,z2,z3,lD⟩:=h1 j _ h00
  rw[e1]at w1
  cases w1
  cases z1
  rw[f2]at z2
  cases z2
  obtain⟨x',x1,x2⟩:=(DeepL.is (M':=H3) (NL.of msk_le) es zs' A' (λ_ _ _ h=>h) lD).get q6
  rw[getElem?_eq_getElem hn1]at x1
  cases x1
  exact x2
 have nc:newCat Cat.deep (Cat.deep,D.int (n:Int))=.deep:=rfl
 rw[nc]at E5
 have hi5:(U.set j (some (Cat.deep,D.lst (n5 n es (.int (n:Int))))))[i]?=some (some (.deep,.lst ds)):=by rw[List.getElem?_set_ne hne];exact h0
 have iv5:Is X.K (msk O5 (upd H3 l (.lst (n5 n zs' (.int (n:Int)))))) d zs'[n]:=by
  refine Is.nl (NL.trans (λc o hc hh=>?_) E5.nl) d _ ld iv
  have:c≠l:=λz=>by
   subst z
   rw[f2]at hc
   cases hc
   exact hh (.inl ⟨_,rfl⟩)
  rw[ag this];exact hc
 obtain⟨a',xs',b',u',a2',ys',k1,k2,k3,k4,k5,k6,k7,k8,k9⟩:=E5.changeT gH yi hi5 hjm lc ld iv5
 rw[g1]at k1
 cases k1
 have nal:a≠l:=λz=>by
  subst z
  obtain⟨F,h1,_,h3,_⟩:=E.fp
  obtain⟨w,w1,a',xs',A',z1,z2,z3,_⟩:=h1 i _ h0
  obtain⟨w',w1',a'',xs'',A'',z1',z2',z3',_⟩:=h1 j _ h00
  rw[g1]at w1
  cases w1;cases z1
  rw[e1]at w1'
  cases w1';cases z1'
  exact hne (h3 j i a (by rw[z3'];exact mem_cons_self) (by rw[z3];exact mem_cons_self))
 have e5:∀c o,c≠l->H c=some o->upd H3 l (.lst (n5 n zs' (.int (n:Int)))) c=some o:=λc o hc q=>by rw[ag hc];exact s13 _ _ q
 have x1:=e5 a _ nal g2
 rw[x1]at k2
 cases k2
 rw[g4]at k4
 cases k4
 have nbl:b≠l:=λz=>by subst z;have:=s13 _ _ g5;rw[f2]at this;cases this
 have x2:=e5 b _ nbl g5
 rw[x2]at k5
 cases k5
 refine⟨l,zs',_,n,zs'[n],rfl,rfl,f2,by omega,by omega,PySem.StrLaws.seqIndex_nonneg (by omega) (by omega),getElem?_eq_getElem hn1,?_⟩
 exact⟨a2,ys',zs'[n],rfl,rfl,k6,by rw[gz,<-k7];exact Nat.lt_of_succ_lt hz2,k Y _ O5 (s13.msk.trans (s5.trans k9)) k8⟩
end
section
variable {X:Cx} {e:Expr} {pos:Pos}
def gpF (i j:Nat) (R:Vv->Option D):Ev->Option Out:=λU=>(jk U i).bind λds=>(jk U j).bind λes=>(R (vw U)).bind λy=>(yG es.length y).bind λk=>(es[k]?).bind λd=>
 if i≠j/\lfD d=true/\es.length<big/\ds.length+1<big then some (.nx ((U.set j (some (.deep,.lst (es.eraseIdx k)))).set i (some (.deep,.lst (ds++[d])))))else none
theorem H9 (i j:Nat) (h:PP X e R) (hN:X.N[i]?=some x) (hv:Vis X.env.scope x) (hd:(x==("__debug__":Str))=false) (hcd:(x==("__classdict__":Str))=false) (hN2:X.N[j]?=some y) (hv2:Vis X.env.scope y) (hd2:(y==("__debug__":Str))=false) (hcd2:(y==("__classdict__":Str))=false) (hst:starEach [e] X.env=(false,eval e X.env)::starEach [] X.env) (hline:(apos.endLine==cpos.line)=true) (hline2:(apos2.endLine==cpos2.line)=true):
  PR X (.Expr (.Call (.Attribute (.Name x px) "append" apos) [.Call (.Attribute (.Name y py) "pop" apos2) [e] [] cpos2] [] cpos) pos) (gpF i j R):=λB O U=>
 (ib (oI PySem.F.plainAttrs_list PySem.F.slot_list_append PySem.F.type_list_append jP (b7 hN hv hd hcd)
  (bK (oI PySem.F.plainAttrs_list PySem.F.slot_list_pop PySem.F.type_list_pop qR (b7 hN2 hv2 hd2 hcd2) (bK (h noO (vw U)) pa_nil hst) rfl (by rw[hst];rfl) hline2 hst rfl) pa_nil rfl) rfl rfl hline rfl rfl)).imp λEn Y H ⟨E,o,q,k⟩=>by
 obtain⟨ds,q1,q⟩:=bind_some q
 obtain⟨es,q3,q⟩:=bind_some q
 obtain⟨yd,q4,q⟩:=bind_some q
 obtain⟨n,q5,q⟩:=bind_some q
 obtain⟨d,q6,q⟩:=bind_some q
 obtain⟨⟨nij,ld,hz1,hz2⟩,q⟩:=ay q
 subst q
 have h0:=fP q1
 have h00:=fP q3
 obtain⟨ey,hn⟩:=pd q5
 subst ey
 have hne:j≠i:=λz=>nij z.symm
 obtain⟨a,xs0,g1,g2,_⟩:=E.ownAt h0 (by decide)
 refine⟨.ref a,g1,.inl ⟨rfl,_,SqL.of g2⟩,?_⟩
 obtain⟨l,zs,e1,e2,hl,ol,bl⟩:=E.ownAt h00 (by decide)
 refine⟨.ref l,e1,.inl ⟨rfl,_,SqL.of e2⟩,E.view,_,q4,λyv3 H3 s3 iy3=>?_⟩
 cases(show yv3=.int (n:Int)from iy3)
 have E3:=E.grow s3
 have E4:=E3.moreS (d:=.int (n:Int)) (v:=.int (n:Int)) rfl
 have ex:extS (.int (n:Int))=(.deep,.int (n:Int)):=rfl
 rw[ex]at E4
 obtain⟨l',zs',f1,f2,f3,O5,E5,s5⟩:=E4.change (n5 n) (C8 n) (C9 n) h00 (by decide)
 rw[e1]at f1
 cases f1
 have hb:big<2^63:=by rw[<-gz];decide
 have hn1:n<zs'.length:=by rw[<-f3];exact(List.getElem?_eq_some_iff.mp q6).1
 have hn2:zs'.length<big:=by rw[<-f3];exact hz1
 have iv:Is X.K H3 d zs'[n]:=by
  obtain⟨F,h1,_⟩:=E3.fp;obtain⟨w,w1,a',xs',A',z1,z2,z3,lD⟩:=h1 j _ h00;rw[e1]at w1;cases w1;cases z1;rw[f2]at z2;cases z2;obtain⟨x',x1,x2⟩:=(DeepL.is (M':=H3) (NL.of msk_le) es zs' A' (λ_ _ _ h=>h) lD).get q6;rw[getElem?_eq_getElem hn1]at x1;cases x1;exact x2
 have nc:newCat Cat.deep (Cat.deep,D.int (n:Int))=.deep:=rfl
 rw[nc]at E5
 have hi5:(U.set j (some (Cat.deep,D.lst (n5 n es (.int (n:Int))))))[i]?=some (some (.deep,.lst ds)):=by rw[List.getElem?_set_ne hne];exact h0
 have iv5:Is X.K (msk O5 (upd H3 l (.lst (n5 n zs' (.int (n:Int)))))) d zs'[n]:=by
  refine Is.nl (NL.trans (λc o hc hh=>?_) E5.nl) d _ ld iv;have:c≠l:=λz=>by
   subst z;rw[f2]at hc;cases hc;exact hh (.inl ⟨_,rfl⟩)
  rw[ag this];exact hc
 have E6:=E5.moreS iv5
 have ex6:extS d=(.deep,d):=if_pos ld
 rw[ex6]at E6
 have hil:i<(U.set j (some (Cat.deep,D.lst (n5 n es (.int (n:Int)))))).length:=(List.getElem?_eq_some_iff.mp hi5).1
 obtain⟨a',xs',k1,k2,k3,O7,E7,s7⟩:=E6.change gH tB tD hi5 (by decide)
 rw[g1]at k1
 cases k1
 refine⟨l,zs',_,n,zs'[n],rfl,rfl,f2,by omega,by omega,PySem.StrLaws.seqIndex_nonneg (by omega) (by omega),getElem?_eq_getElem hn1,?_⟩
 exact⟨a,xs',zs'[n],rfl,rfl,k2,by rw[gz,<-k3];exact Nat.lt_of_succ_lt hz2,k Y _ O7 (s3.msk.trans (s5.trans s7)) E7⟩
end
section
variable {X:Cx} {pos:Pos}
end
section
variable {X:Cx} {a b:Expr} {pos:Pos}
def yH (K:Frag):R2:=λx y H Q=>∃a b ys,x=.ref a/\y=.ref b/\SqT K H a []/\SqT K H b ys/\Q (.ref b) H
theorem yI:OpR X (binaryOp .Add) (yH X.K):=by
 intro pins s Y H x y v u Q I rx ry h;obtain⟨a,b,ys,rfl,rfl,ha,hb,q⟩:=h;cases rx;cases ry;obtain⟨its,r1,p1,_⟩:=I.tuple ha;obtain⟨its2,r2,p2,_⟩:=I.tuple hb;have hn:its=[]:=r1.nil_iff.mpr rfl;subst hn;obtain⟨⟨cls,dd,data,sl⟩,ho,hc,n,hd⟩:=id p1;obtain⟨⟨cls2,dd2,data2,sl2⟩,ho2,hc2,n2,hd2⟩:=id p2;simp only at hc hd hc2 hd2;subst hc hd hc2 hd2;exact concat_meets ⟨_,ho,rfl⟩ ⟨_,ho2,rfl⟩ noFill_tuple_add seq_tuple_add PySem.F.slot_tuple_add PySem.F.entry_tuple_add (PySem.F.args_tuple_add_2 _ _) (tuple_addW0 a b _ _ n n2 dd dd2 sl sl2 rfl) ⟨ho,ho2,.ref b,H,I,rfl,q⟩
def rTT (K:Frag):R2:=λx y H Q=>CU K x y H Q\/yH K x y H Q
theorem Ia:OpR X (binaryOp .Add) (rTT X.K):=λpins s Y H x y v u Q I rx ry h=>h.elim (AR pins s Y H x y v u Q I rx ry) (yI pins s Y H x y v u Q I rx ry)
def KA:D->D->Option D
 |.tup a,.tup b=>if a.length+b.length<big then some (.tup (a++b))else none
 |_,_=>none
theorem KC {K}:R2D K (rTT K) KA:=λO H x y dx dy d Q hd ix iy e k=>by
 cases dx with
 |tup as=>
  cases dy with
  |tup bs=>
   obtain⟨hz,e⟩:=ay (show(if as.length+bs.length<big then _ else none)=some d from e);subst e;obtain⟨p,us,rfl,t1,l1⟩:=ix;obtain⟨q,ws,rfl,t2,l2⟩:=iy;have hl1:=l1.len;have hl2:=l2.len;cases as with
   |nil=>
    have hu:us=[]:=List.length_eq_zero_iff.mp (by rw[<-hl1];rfl);subst hu;exact .inr ⟨p,q,ws,rfl,rfl,msk_le.seqT t1,msk_le.seqT t2,k _ H (Same.refl _) ⟨q,ws,rfl,t2,l2⟩⟩
   |cons a as=>
    have hu:us≠[]:=λz=>by rw[z]at hl1;cases hl1
    refine .inl ⟨p,q,us,ws,rfl,rfl,msk_le.seqT t1,msk_le.seqT t2,hu,by rw[<-hl1,<-hl2];exact Nat.le_of_lt hz,λz=>?_,λz c hc=>?_⟩
    ·subst z;have hb:bs=[]:=List.length_eq_zero_iff.mp (by rw[hl2];rfl);subst hb;rw[List.append_nil]at k;exact k _ H (Same.refl _) ⟨p,us,rfl,t1,l1⟩
    ·have hO:=gy hd hc;have le:Same (msk O H) (msk O (upd H c (.tup (us++ws)))):=by rw[lX hO];exact Same.new (by rw[aK hO];exact hc)
     exact k _ _ (Same.new hc) ⟨c,us++ws,rfl,.of (by rw[aK hO,upd_same]),IsL.mono le _ _ (l1.app l2)⟩
  |_=>cases e
 |_=>cases e
def bb:D->D->Option D
 |.int i,.int j=>some (.int (i+j))
 |.tup a,.tup b=>if a.length+b.length<big then some (.tup (a++b))else none
 |_,_=>none
theorem EN (ha:PP X a fa) (hb:PP X b fb):PP X (.BinOp a .Add b pos) (af bb fa fb):=λO U=>(A4 ha hb O U).by2 (mL Ia KC ha hb O U) λY H Q ⟨E,d,q,k⟩=>by
 obtain⟨x,e1,q⟩:=bind_some q;obtain⟨y,e2,q⟩:=bind_some q;have w1:∀g:D->D->Option D,af g fa fb U=g x y:=λg=>by show(fa U).bind _=_;rw[e1];show(fb U).bind _=_;rw[e2];rfl
 cases x<;>cases y<;>first
  |exact .inl ⟨E,d,by rw[w1];exact q,k⟩
  |exact .inr ⟨E,d,by rw[w1];exact q,k⟩
end
section
variable {X:Cx} {a:Expr} {p pc pos:Pos}
end
structure Gb where
 fn:Str->Option (Nat×(List D->Option Sl))
 cn:Str->Option D
 no:Str->Bool
 fl:Str->Str->Bool
 mt:Str->MT
 ini:Str->Option (Nat×(List D->Option (List (Str×D))))
structure Sn where
 N:List Str
 nm:List (Str×NameKind)
 k:Nat
 G:Gb
structure GbOk (P:Program) (w:World) (K:Frag) (mg:Str->Option Value) (base:Heap) (G:Gb):Prop where
 fn:∀x k f,G.fn x=some (k,f)->Df P w K mg base x k f
 cn:∀x d,G.cn x=some d->Cn K mg x d
 no:∀x,G.no x=true->mg x=none
 fl:∀C m Ca,G.fl C m=true->nsIn K mainGlobals C=some (some (.ref Ca))->Cls K Ca/\NoAttr K Ca m
 mt:∀m C k f,G.mt m C=some (k,f)->Mf P w K mg base C m k f
 ini:∀C k g,G.ini C=some (k,g)->Mkf P w K mg base C k g
structure SnOk (X:Cx) (S:Sn):Prop where
 g:GbOk X.prog X.w X.K X.mg X.base S.G
 N:X.N=S.N
 nd:S.N.Nodup
 calm:X.calm=true
 room:Room S.k X.A
 loc:∀x,S.nm.lookup x=some .local->X.env.scope.names.lookup x=some .local
 cel:∀x,S.nm.lookup x=some .cell->X.env.scope.names.lookup x=some .cell
 fre:∀x,S.nm.lookup x=some .free->X.env.scope.names.lookup x=some .cell\/X.env.scope.names.lookup x=some .free
 glo:∀x,S.nm.lookup x=some .globalImplicit->X.env.kindOf x=some .globalImplicit
def bf (S:Sn) (x:Str):Option Nat:=if eL x&&uV (S.nm.lookup x)then pX S.N x else none
def glS (S:Sn) (x:Str):Bool:=eL x&&decide (S.nm.lookup x=some .globalImplicit)
def nmF (S:Sn) (x:Str):Vv->Option D:=match bf S x with
 |some i=>λU=>eJ U i
 |none=>if glS S x then(match S.G.cn x with
  |some d=>λ_=>some d
  |none=>if S.G.no x then(match pY x with|some n=>λ_=>some (.ty n)|none=>λ_=>none)elseλ_=>none)elseλ_=>none
section
variable {X:Cx} {S:Sn} {pos:Pos}
theorem pp_no:PP X e (λ_=>none):=λO U=>(pT O U).1
theorem SnOk.vis (o:SnOk X S) (h:uV (S.nm.lookup x)=true):Vis X.env.scope x:=by
 cases e:S.nm.lookup x with
 |none=>rw[e]at h;cases h
 |some k=>
  rw[e]at h;cases k with
  |«local»=>exact .inl (o.loc x e)
  |cell=>exact .inr (.inl (o.cel x e))
  |free=>
   rcases o.fre x e with q|q
   ·exact .inr (.inl q)
   ·exact .inr (.inr q)
  |globalExplicit=>cases h
  |globalImplicit=>cases h
theorem aT (o:SnOk X S) (h:bf S x=some i):eL x=true/\Vis X.env.scope x/\X.N[i]?=some x/\uV (S.nm.lookup x)=true:=by
 unfold bf at h;split at h
 ·rename_i c;rw[and_eq_true]at c;exact⟨c.1,o.vis c.2,by rw[o.N];exact eZ h,c.2⟩
 ·cases h
theorem bc (o:SnOk X S) (h:glS S x=true):eL x=true/\Gl X x:=by
 unfold glS at h;rw[and_eq_true]at h;exact⟨h.1,o.glo x (of_decide_eq_true h.2)⟩
theorem qd (o:SnOk X S) (x:Str):PP X (.Name x pos) (nmF S x):=by
 unfold nmF;split
 ·rename_i i e;obtain⟨h1,h2,h3,_⟩:=aT o e;obtain⟨a,b,c⟩:=bn h1;exact mK i h3 h2 a b
 ·split
  ·rename_i e;obtain⟨h1,h2⟩:=bc o e;obtain⟨a,b,c⟩:=bn h1;split
   ·rename_i d hd;exact xJ (o.g.cn x d hd) h2 a
   ·split
    ·rename_i hn;split
     ·rename_i n hb;exact Ha h2 (o.g.no x hn) (tF hb) c a
     ·exact pp_no
    ·exact pp_no
  ·exact pp_no
end
def aQ:Expr->Bool
 |.Starred _ _=>false
 |_=>true
theorem star1 (h:aQ e=true):starEach (e::es) env=(false,eval e env)::starEach es env:=by
 cases e<;>first|rfl|cases h
theorem rL:∀ {es:List Expr},es.all aQ=true->(backTo pos (starEach es env)).any (·.1)=false
 |[],_=>rfl
 |e::es,h=>by
  rw[List.all_cons,and_eq_true]at h;rw[star1 h.1];show(false||(backTo pos (starEach es env)).any (·.1))=false;rw[rL h.2];rfl
def KD:Operator->Option (D->D->Option D)
 |.Add=>some bb
 |.Sub=>some lm
 |.Mult=>some cW
 |.FloorDiv=>some dJ
 |.Mod=>some aM
 |.Pow=>some cu
 |_=>none
def Ib (op:Operator) (fa fb:Vv->Option D):Vv->Option D:=match KD op with
 |some g=>af g fa fb
 |none=>λ_=>none
def jm:Expr->Bool
 |.Set _ _ _=>false
 |_=>true
theorem noSet_mark (h:jm b=true):behindInMarks op b=false:=by
 cases b<;>first|rfl|cases h
theorem d4 (h:jm iter=true):∀x,foldedSetIterable iter env x=pure x:=by
 intro x;cases iter<;>first|rfl|cases h
def cmpG:CmpOp->Option (D->D->Option D)
 |.Lt=>some ltD
 |.LtE=>some leD
 |.Gt=>some gtD
 |.GtE=>some geD
 |.Eq=>some (bi false)
 |.NotEq=>some (bi true)
 |.In=>some inD
 |.NotIn=>some tm
 |.Is=>some (Bh false)
 |_=>none
def wr (op:CmpOp) (b:Expr) (fa fb:Vv->Option D):Vv->Option D:=match cmpG op with
 |some g=>if jm b then af g fa fb elseλ_=>none
 |none=>λ_=>none
section
variable {X:Cx} {S:Sn} {a b c:Expr} {pos:Pos}
theorem Ic (op:Operator) (ha:PP X a fa) (hb:PP X b fb):PP X (.BinOp a op b pos) (Ib op fa fb):=by
 cases op<;>first
  |exact EN ha hb
  |exact D1 ha hb
  |exact D2 ha hb
  |exact D3 ha hb
  |exact D4 ha hb
  |exact D5 ha hb
  |exact pp_no
theorem Ie (o:SnOk X S) (op:CmpOp) (ha:PP X a fa) (hb:PP X b fb):PP X (.Compare a [op] [b] pos) (wr op b fa fb):=by
 unfold wr;cases op<;>dsimp only[cmpG]<;>(try split)<;>first
  |exact pp_no
  |exact Hn (lt_of_le_of_lt (Nat.le_add_right _ _) (jU o.room)) ha hb
  |exact Ho ha hb
  |exact Hq ha hb
  |exact Hr ha hb
  |exact HC o.room ha hb
  |exact HE o.room ha hb
  |(rename_i h;exact pp_cmp op_in_seq r_in ha hb (noSet_mark h))
  |(rename_i h;exact pp_cmp op_notIn_seq r_notIn ha hb (noSet_mark h))
  |(rename_i h;exact pp_cmp op_isN r_isN ha hb (noSet_mark h))
theorem EO (o:SnOk X S) (op:CmpOp) (ha:PP X a fa) (hb:PP X b fb):PQ X (.Compare a [op] [b] pos) (au (wr op b fa fb)):=by
 have no:PQ X (.Compare a [op] [b] pos) (au λ_=>none):=λO U pins s Y H Q I ⟨_,_,q,_⟩=>by cases q
 unfold wr;cases op<;>dsimp only[cmpG]<;>(try split)<;>first
  |exact no
  |exact Hs (lt_of_le_of_lt (Nat.le_add_right _ _) (jU o.room)) ha hb
  |exact Ht ha hb
  |exact Hu ha hb
  |exact Hv ha hb
  |exact HF o.room ha hb
  |exact HG o.room ha hb
  |(rename_i h;exact pq_cmp op_in_seq r_in ha hb (noSet_mark h))
  |(rename_i h;exact pq_cmp op_notIn_seq r_notIn ha hb (noSet_mark h))
  |(rename_i h;exact pq_cmp op_isN r_isN ha hb (noSet_mark h))
end
def yJ (x:Str):Option (List D->Option D):=if x=("len":Str)then some aS else if x=("isinstance":Str)then some gB else if x=("all":Str)then some n4 else if x=("tuple":Str)then some jQ else if x=("max":Str)then some lz else none
def yK (S:Sn) (x:Str):List D->Option D:=if glS S x then(match S.G.fn x with
 |some (k,g)=>if k<=S.k thenλds=>jj (g ds)elseλ_=>none
 |none=>match S.G.ini x with
  |some (k,g)=>if k+1<=S.k thenλds=>wj x (g ds)elseλ_=>none
  |none=>if S.G.no x then(match yJ x with|some g=>g|none=>λ_=>none)elseλ_=>none)elseλ_=>none
def yL (S:Sn) (x:Str):List D->Option D:=if glS S x then(match S.G.fn x with
 |some (k,g)=>if k<=S.k thenλds=>oU (g ds)elseλ_=>none
 |none=>λ_=>none)elseλ_=>none
section
variable {X:Cx} {S:Sn} {e:Expr} {es:List Expr} {p pos:Pos}
theorem vc {α β:Type} (o:Option α):(o.bind λ_=>(none:Option β))=none:=by cases o<;>rfl
theorem d5 {fa:Vv->Option (List D)}:PP X e (λU=>(fa U).bind λ_=>none):=λO U pins s Y H Q I ⟨_,_,q,_⟩=>by dsimp only at q;rw[vc]at q;cases q
theorem k_call (o:SnOk X S) (x:Str) (ha:PX X (e::es) fa) (hst:(e::es).all aQ=true):PP X (.Call (.Name x p) (e::es) [] pos) (λU=>(fa U).bind (yK S x)):=by
 rw[List.all_cons,and_eq_true]at hst;have h1:starEach (e::es) X.env=(false,eval e X.env)::starEach es X.env:=star1 hst.1;have h2:∀pos,(backTo pos (starEach es X.env)).any (·.1)=false:=λpos=>rL hst.2;unfold yK;split
 ·rename_i hg;obtain⟨ok,gl⟩:=bc o hg;obtain⟨n1,n2,n3⟩:=bn ok;split
  ·rename_i k g hf;split
   ·rename_i hk;exact Bu (o.g.fn x k g hf) (o.room.mono hk) gl ha n1 h1 (h2 _)
   ·exact d5
  ·split
   ·rename_i k g hf;split
    ·rename_i hk;exact Bx (o.g.ini x k g hf) (o.room.mono hk) gl ha n1 h1 (h2 _)
    ·exact d5
   ·split
    ·rename_i hn;have hm:=o.g.no x hn;split
     ·rename_i g hb;unfold yJ at hb;split at hb
      ·rename_i q;cases hb;subst q;exact pp_callB call_lenA rn_len gl hm PySem.boot_len ha n3 n1 h1 (h2 _)
      ·split at hb
       ·rename_i q;cases hb;subst q;exact pp_callB call_isi rn_isi gl hm (by decide+kernel) ha n3 n1 h1 (h2 _)
       ·split at hb
        ·rename_i q;cases hb;subst q;exact pp_callB (call_all o.calm) rn_all gl hm (by decide+kernel) ha n3 n1 h1 (h2 _)
        ·split at hb
         ·rename_i q;cases hb;subst q;exact pp_callTy call_tuple_of rn_tuple gl hm (by decide+kernel) ha n3 n1 h1 (h2 _)
         ·split at hb
          ·rename_i q;cases hb;subst q;exact pp_callB (call_maxA o.calm) rn_max gl hm b_max ha n3 n1 h1 (h2 _)
          ·cases hb
     ·exact d5
    ·exact d5
 ·exact d5
theorem k_callR (o:SnOk X S) (x:Str) (ha:PX X (e::es) fa) (hst:(e::es).all aQ=true):PFr X (.Call (.Name x p) (e::es) [] pos) (λU=>(fa U).bind (yL S x)):=by
 rw[List.all_cons,and_eq_true]at hst;have h1:starEach (e::es) X.env=(false,eval e X.env)::starEach es X.env:=star1 hst.1;have h2:∀pos,(backTo pos (starEach es X.env)).any (·.1)=false:=λpos=>rL hst.2;have no:PFr X (.Call (.Name x p) (e::es) [] pos) (λU=>(fa U).bind λ_=>none):=λU=>by dsimp only;rw[vc];exact rp U
 unfold yL;split
 ·rename_i hg;obtain⟨ok,gl⟩:=bc o hg;obtain⟨n1,n2,n3⟩:=bn ok;split
  ·rename_i k g hf;split
   ·rename_i hk;exact Bv (o.g.fn x k g hf) (o.room.mono hk) gl ha n1 h1 (h2 _)
   ·exact no
  ·exact no
 ·exact no
end
theorem rM (e a:Expr) (f:Str) (p:Pos) (l:Nat) (env:Env):swapsWith e (some (.Attribute a f p)) l env=pure false:=by
 cases e<;>rfl
theorem rN {K}:∀ {fd:List (Str×D)} {fs:List (Str×V)},fs.map (·.1)=fd.map (·.1)->IsL K M (fd.map (·.2)) (fs.map (·.2))->fd.lookup h=some d->∃v,fs.lookup h=some v/\Is K M d v
 |[],_,_,_,q=>by cases q
 |_::_,[],e,_,_=>by simp at e
 |(g,c)::fd,(g',u)::fs,e,⟨x,r,z,i,l⟩,q=>by
  have e1:g'=g:=by simp at e;exact e.1
  have e2:fs.map (·.1)=fd.map (·.1):=by simp at e;simpa using e.2
  subst e1;have z':u::fs.map (·.2)=x::r:=z;cases z';rw[List.lookup_cons]at q;cases hb:h==g' with
  |true=>
   rw[hb]at q;cases q;exact⟨u,by rw[List.lookup_cons,hb],i⟩
  |false=>
   rw[hb]at q;obtain⟨v,h1,h2⟩:=rN e2 l q;exact⟨v,by rw[List.lookup_cons,hb];exact h1,h2⟩
def yM (x:Addr) (i:Nat) (g h:Str) (ff:List D->Option Sl) (G:InF):InF:=λU fs=>match eX U i with
 |some (.sh,.adr a)=>if a=x/\fs.length<900 then((fs.lookup h).bind λd=>(ff [d]).bind λs=>G U (jV g s.2 fs))else none
 |_=>none
section
variable {X:Cx} {Ca x:Addr} {rest:List Stmt} {pos:Pos}
theorem BL (i:Nat) (F:Df X.prog X.w X.K X.mg X.base fn k ff) (hr:Room k X.A) (hg:Gl X fn) (hdb:(fn==("__debug__":Str))=false) (h2:PIn X Ca x rest G) (hN:X.N[i]?=some self) (hvis:Vis X.env.scope self) (hd:(self==("__debug__":Str))=false) (hcd:(self==("__classdict__":Str))=false) (c:Cls X.K Ca) (na:NoAttr X.K Ca g) (nb:NoAttr X.K Ca h):PIn X Ca x (.Assign [.Attribute (.Name self px) g pos'] (.Call (.Name fn p) [.Attribute (.Name self px2) h apos] [] cpos) pos::rest) (yM x i g h ff G):=λB O U dx fd=>by
 obtain⟨fa,fdt,ps,hm,hk,hb,Gf⟩:=F.ex;refine(jb (wX (b7 hN hvis hd hcd) (pI Gf hr hg hm hk hb .nil qS (bK (wW (f:=h) (b7 hN hvis hd hcd) rfl) pa_nil) hdb rfl rfl) (rM _ _ _ _ _ _)) (PSs.ex λz:Bs×(Addr->Bool)×Ev×List (Str×D)=>h2 z.1 z.2.1 z.2.2.1 dx z.2.2.2)).imp λEn Y H ⟨E,hx,⟨fs,a1,a2,a3⟩,fd',q,k⟩=>?_;have q':(match eX U i with|some (.sh,.adr a)=>if a=x/\fd.length<900 then((fd.lookup h).bind λd=>(ff [d]).bind λs=>G U (jV g s.2 fd))else none|_=>none)=some fd':=q;split at q'
 ·rename_i a ha;split at q'
  ·rename_i hc;obtain⟨rfl,hl⟩:=hc;obtain⟨d,q1,q'⟩:=bind_some q';obtain⟨s,q2,q'⟩:=bind_some q';obtain⟨v,hv,iv⟩:=rN a2 a3 q1;obtain⟨F1,f1,_⟩:=E.fp;obtain⟨w,ew,ow⟩:=f1 i _ (dO ha);cases(show w=.ref a from ow.2);refine⟨.ref a,ew,a,Ca,dx,fs,v,rfl,E.same a _ a1,c,nb,hv,?_⟩;show spC X.K ff ([v]++[]) H _ E0;refine⟨O,[d],s,E.lis,⟨v,[],rfl,iv,rfl⟩,q2,λy H1 r=>?_⟩;obtain⟨s1,iy⟩:=r.is E.lis;have E1:=E.grow s1;have hlen:fs.length=fd.length:=by have:=congrArg List.length a2;simpa using this
   refine⟨.ref a,ew,a,Ca,dx,fs,rfl,E1.same a _ a1,c,na,by omega,?_⟩;obtain⟨E3,me⟩:=E1.store (fs':=dW g y fs) hx a1;obtain⟨b1,b2⟩:=pZ (f:=g) iy a2 (IsL.mono s1.msk _ _ a3);refine⟨⟨⟨upd B.H a (.ins Ca dx (dW g y fs)),B.O⟩,O,U,jV g s.2 fd⟩,E3,hx,⟨_,upd_same,b1,by rw[me];exact b2⟩,fd',q',λY' H' O' fs' k1 k2 k3 k4 k5=>k Y' H' O' fs' (λb o hb h=>k1 b o hb (by show upd B.H a _ b=some o;rw[ag hb];exact h)) k2 k3 k4 k5⟩
  ·cases q'
 ·cases q'
end
def rO (N:List Str) (nm:List (Str×NameKind)):List Nat:=(List.range N.length).filter λi=>match N[i]? with|some x=>decide (nm.lookup x=some .local)|none=>false
theorem rP (h:N[i]?=some x) (h2:nm.lookup x=some .local):i∈rO N nm:=by
 unfold rO;rw[List.mem_filter,List.mem_range];refine⟨(List.getElem?_eq_some_iff.mp h).1,?_⟩;rw[h];simp[h2]
def yN (S:Sn) (x:Str):Option Nat:=if S.nm.lookup x=some .local then pX S.N x else none
mutual
def tgV (S:Sn):Nat->Expr->D->Vv->Option Vv
 |0=>λ_ _ _=>none
 |n+1=>λe=>match e with
  |.Name x _=>(match yN S x with|some i=>gNm i|none=>λ_ _=>none)
  |.Tuple ts _ _=>if ts.all aQ then gTp ts.length (BM S n ts)elseλ_ _=>none
  |_=>λ_ _=>none
def BM (S:Sn):Nat->List Expr->List D->Vv->Option Vv
 |0=>λ_ _ _=>none
 |n+1=>λes=>match es with
  |[]=>eV
  |t::ts=>if aQ t then bq (tgV S n t) (BM S n ts)elseλ_ _=>none
end
def qe (S:Sn) (x:Str):Option Nat:=if S.nm.lookup x=some .local\/S.nm.lookup x=some .cell then pX S.N x else none
mutual
def tgE (S:Sn):Nat->Expr->D->Ev->Option Ev
 |0=>λ_ _ _=>none
 |n+1=>λe=>match e with
  |.Name x _=>(match qe S x with|some i=>eNm i|none=>λ_ _=>none)
  |.Tuple ts _ _=>if ts.all aQ then eTp ts.length (BN S n ts)elseλ_ _=>none
  |_=>λ_ _=>none
def BN (S:Sn):Nat->List Expr->List D->Ev->Option Ev
 |0=>λ_ _ _=>none
 |n+1=>λes=>match es with
  |[]=>rB
  |t::ts=>if aQ t then gd (tgE S n t) (BN S n ts)elseλ_ _=>none
end
section
variable {X:Cx} {S:Sn}
theorem asg1 (h:aQ t=true):(assignEach (t::ts) env).map (·.2)=assign t env::(assignEach ts env).map (·.2):=by
 cases t<;>first|rfl|cases h
theorem asgLen:∀ {ts:List Expr},(assignEach ts env).length=ts.length
 |[]=>rfl
 |t::ts=>by cases t<;>exact congrArg (·+1) (asgLen (ts:=ts))
theorem yO:∀ {ts:List Expr},ts.all aQ=true->(assignEach ts env).findIdx? (·.1)=none
 |[],_=>rfl
 |t::ts,h=>by
  rw[List.all_cons,and_eq_true]at h;have ih:=yO (env:=env) h.2;have:assignEach (t::ts) env=(false,assign t env)::assignEach ts env:=by
   have h1:=h.1;cases t<;>first|rfl|cases h1
  rw[this,List.findIdx?_cons];simp[ih]
theorem vd:PGD X ks e (λ_ _=>none):=λO U d pins s Y H v u Q I r ⟨_,_,_,q,_⟩=>by cases q
theorem yP:wc X ks e (λ_ _=>none):=λO U d pins s Y H v u Q I r ⟨_,_,_,q,_⟩=>by cases q
theorem ve:PGE X e (λ_ _=>none):=λB O U d pins s Y H v u Q I r ⟨_,_,_,q,_⟩=>by cases q
theorem yQ:we X e (λ_ _=>none):=λB O U d pins s Y H v u Q I r ⟨_,_,_,q,_⟩=>by cases q
theorem tV (h:yN S x=some i):S.nm.lookup x=some .local/\S.N[i]?=some x:=by
 unfold yN at h;split at h
 ·exact⟨by assumption,eZ h⟩
 ·cases h
theorem rQ (h:qe S x=some i):(S.nm.lookup x=some .local\/S.nm.lookup x=some .cell)/\S.N[i]?=some x:=by
 unfold qe at h;split at h
 ·exact⟨by assumption,eZ h⟩
 ·cases h
theorem yR (o:SnOk X S):∀n,(∀e,PGD X (rO S.N S.nm) e (tgV S n e))/\∀es,wc X (rO S.N S.nm) es (BM S n es):=by
 intro n;induction n with
 |zero=>exact⟨λe=>vd,λes=>yP⟩
 |succ n ih=>
  refine⟨λe=>?_,λes=>?_⟩
  ·unfold tgV;split
   ·split
    ·rename_i i hi;obtain⟨h1,h2⟩:=tV hi;exact Bb (by rw[o.N];exact o.nd) (by rw[o.N];exact h2) (.inl (o.loc _ h1)) (rP h2 h1) (.inr (o.loc _ h1))
    ·exact vd
   ·split
    ·rename_i h;exact Ee o.calm (ih.2 _) asgLen (yO h)
    ·exact vd
   ·exact vd
  ·unfold BM;split
   ·exact Bc
   ·split
    ·rename_i h;exact gsd_cons (ih.1 _) (ih.2 _) (asg1 h)
    ·exact yP
theorem rR (o:SnOk X S) (hf:∀x,X.fn x=true):∀n,(∀e,PGE X e (tgE S n e))/\∀es,we X es (BN S n es):=by
 intro n;induction n with
 |zero=>exact⟨λe=>ve,λes=>yQ⟩
 |succ n ih=>
  refine⟨λe=>?_,λes=>?_⟩
  ·unfold tgE;split
   ·split
    ·rename_i i hi;obtain⟨h1,h2⟩:=rQ hi;have hl:Loc X.env.scope _:=h1.elim (λh=>.inl (o.loc _ h)) (λh=>.inr (o.cel _ h));exact Bn (by rw[o.N];exact o.nd) (by rw[o.N];exact h2) hl (.inl (hf _))
    ·exact ve
   ·split
    ·rename_i h;exact Em o.calm (ih.2 _) asgLen (yO h)
    ·exact ve
   ·exact ve
  ·unfold BN;split
   ·exact Bo
   ·split
    ·rename_i h;exact gse_cons (ih.1 _) (ih.2 _) (asg1 h)
    ·exact yQ
def ir (S:Sn) (sc:Scope):Bool:=decide (sc.kind=.function)&&sc.names.all λy=>!decide (y.2=.cell)&&(!decide (y.2=.local)||decide (sc.names.lookup y.1=some .local))&&
 (!decide (y.2=.free)||decide (S.nm.lookup y.1=some .cell)||decide (S.nm.lookup y.1=some .free))
theorem qf (o:SnOk X S) (h:ir S sc=true):CSc X sc (rO S.N sc.names):=by
 unfold ir at h;rw[and_eq_true]at h;have hk:=of_decide_eq_true h.1;have ha:=List.all_eq_true.mp h.2;refine⟨hk,λy hy z=>?_,λy hy z=>?_,λy hy z=>?_,λi x hx hl=>rP (by rw[<-o.N];exact hx) hl⟩
 ·have:=ha y hy;simp[z]at this
 ·have:=ha y hy;simp[z]at this;exact this
 ·have:=ha y hy;simp[z]at this;rcases this with q|q
  ·exact .inl (o.cel _ q)
  ·exact o.fre _ q
theorem kY {f:Str → NameKind → NameKind}:∀ {l:List (Str × NameKind)},(l.map fun y=>(y.1,f y.1 y.2)).lookup x = (l.lookup x).map (f x)
  | []=>rfl
  | (n,k) :: l=>by
    rw [List.map_cons,List.lookup_cons,List.lookup_cons]
    cases h:x == n with
    | true => have : x = n := by simpa using h
              subst this; rfl
    | false=>exact kY
theorem fQ:(relabel sc env).names.lookup x=(sc.names.lookup x).map λk=>if(k==NameKind.free&&env.scope.kind==.function&&env.kindOf x==some .cell)then NameKind.cell else k:=by
 have e:(relabel sc env).names=sc.names.map λy=>(y.1,if(y.2==NameKind.free&&env.scope.kind==ScopeKind.function&&env.kindOf y.1==some NameKind.cell)then NameKind.cell else y.2):=by
  show(sc.names.map λ(n,k)=>if(k==NameKind.free&&env.scope.kind==ScopeKind.function&&env.kindOf n==some NameKind.cell)then(n,NameKind.cell)else(n,k))=_;apply List.map_congr_left;rintro⟨n,k⟩ _;dsimp only;split<;>rfl
 rw[e];exact kY (f:=λn k=>if(k==NameKind.free&&env.scope.kind==ScopeKind.function&&env.kindOf n==some NameKind.cell)then NameKind.cell else k)
theorem nk (o:SnOk X S) {sc:Scope} (h:ir S sc=true) (C:Addr) (s:Shared) (H:Hp) (fp:List Addr):SnOk (cxC X sc C s H fp) {S with nm:=sc.names} where
 g:=o.g
 N:=o.N
 nd:=o.nd
 calm:=o.calm
 room:=o.room
 loc:=λx q=>by
  show(relabel sc X.env).names.lookup x=_;rw[fQ,show sc.names.lookup x=some .local from q];rfl
 cel:=λx q=>by
  exfalso;have q':sc.names.lookup x=some .cell:=q;exact(qf o h).nocell _ (PySem.mem_of_lookup q') rfl
 fre:=λx q=>by
  show(relabel sc X.env).names.lookup x=_\/(relabel sc X.env).names.lookup x=_;rw[fQ,show sc.names.lookup x=some .free from q];dsimp only[Option.map];split
  ·exact .inl rfl
  ·exact .inr rfl
 glo:=λx q=>by
  show(relabel sc X.env).names.lookup x=_;rw[fQ,show sc.names.lookup x=some .globalImplicit from q];rfl
end
def yS:Const->Vv->Option D
 |.int i=>λ_=>some (.int i)
 |.bool b=>λ_=>some (.bl b)
 |.none=>λ_=>some .non
 |.str x=>λ_=>some (.str x)
 |_=>λ_=>none
def noV {α:Type}:Vv->Option α:=λ_=>none
def yT:Expr->Bool
 |.UnaryOp .Not _ _=>false
 |.BoolOp _ _ _=>false
 |.IfExp _ _ _ _=>false
 |.Compare _ _ _ _=>false
 |_=>true
theorem plainT_ok (h:yT e=true):∀whole,isTrue e env whole=(do let v<-whole;standAt e.pos;holding [v] (truthy v)):=by
 intro whole;cases e with
 |UnaryOp op a pos=>cases op<;>first|rfl|cases h
 |BoolOp _ _ _=>cases h
 |IfExp _ _ _ _=>cases h
 |Compare _ _ _ _=>cases h
 |_=>rfl
def BO:Expr->Bool
 |.Slice _ _ _ _=>false
 |_=>true
theorem noSl_ok (h:BO b=true):fI b:=by
 intro o i;cases b<;>first|rfl|cases h
def Ig:Expr->Bool
 |.BinOp _ _ _ _=>true
 |_=>false
def KE:Expr->Bool
 |.Tuple _ _ _=>true
 |_=>false
def Da (S:Sn) (m:Str) (apos pos:Pos) (args:List Expr):Bool:=args.all aQ&&decide (args.length<30)&&(apos.endLine==pos.line)
def cb:Expr->Option Str
 |.Name x _=>some x
 |_=>none
def yU:Expr->Option Str
 |.Call f as ks cp=>(match f,as,ks with
  |.Attribute o m ap,[],[]=>if m=("values":Str)/\(ap.endLine==cp.line)=true then cb o else none
  |_,_,_=>none)
 |_=>none
def cmK:Expr->Option (Expr×Expr×Str×List Expr×Scope)
 |.ListComp elt gs sc _=>(match gs with
  |[g]=>if g.is_async=0 then(cb g.iter).bind λx=>some (elt,g.target,x,g.ifs,sc)else none
  |_=>none)
 |_=>none
def mxA (S:Sn) (f:Str) (a:Expr) (as:List Expr):Bool:=decide (f=("max":Str))&&glS S f&&S.G.no f&&as.isEmpty&&((yU a).isSome||(cmK a).isSome)
mutual
def rd:Nat->Sn->Expr->Vv->Option D
 |0=>λ_ _=>noV
 |n+1=>λS e=>match e with
  |.Constant c _ _=>yS c
  |.Name x _=>nmF S x
  |.BinOp a op b _=>Ib op (rd n S a) (rd n S b)
  |.UnaryOp op a _=>(match op with
   |.Not=>xv (rd n S a)
   |.USub=>λU=>(rd n S a U).bind xM
   |_=>noV)
  |.BoolOp op vs p=>rl n S op vs p
  |.Compare a ops bs _=>(match ops,bs with
   |[op],[b]=>wr op b (rd n S a) (rd n S b)
   |[.LtE,.LtE],[b,c]=>if jm c then fL leD leD (rd n S a) (rd n S b) (rd n S c)else noV
   |_,_=>noV)
  |.IfExp c a b _=>ifF (rq n S c) (rd n S a) (rd n S b)
  |.Tuple es _ _=>λU=>(b9 (rx n S es U)).bind λds=>some (.tup ds)
  |.Attribute o m _=>(match o with
   |.Name x _=>λU=>(nmF S x U).bind (tH S.G.fl m)
   |_=>noV)
  |.Subscript a b _=>if BO b then af ixD (rd n S a) (rd n S b)else noV
  |.Call f as ks pos=>(match f,as,ks with
   |.Name f _,a::as,[]=>if mxA S f a as then rm n S a else orO (if(a::as).all aQ thenλU=>(rx n S (a::as) U).bind (yK S f)else noV) λU=>(rf n S e U).map D.lst
   |.Attribute ob m apos,[],[]=>(match ob with
    |.Name x _=>if Da S m apos pos []thenλU=>jj (x5 (nmF S x) (λ_=>some []) (S.G.mt m) S.k m U)else noV
    |_=>noV)
   |_,_,_=>noV)
  |.List _ _=>λU=>(rf n S e U).map D.lst
  |.ListComp _ _ _ _=>λU=>(rf n S e U).map D.lst
  |_=>noV
def rl:Nat->Sn->BoolOp->List Expr->Pos->Vv->Option D
 |0=>λ_ _ _ _=>noV
 |n+1=>λS op vs p=>match op,vs with
  |_,[a]=>rd n S a
  |.And,a::b::r=>nZ (rd n S a) (rl n S .And (b::r) p)
  |.Or,a::b::r=>orF (rd n S a) (rl n S .Or (b::r) p)
  |_,_=>noV
def rq:Nat->Sn->Expr->Vv->Option Bool
 |0=>λ_ _=>noV
 |n+1=>λS e=>match e with
  |.UnaryOp .Not a _=>dY (rq n S a)
  |.BoolOp op vs p=>rb n S op vs p
  |.Compare a [op] [b] _=>au (wr op b (rd n S a) (rd n S b))
  |.Compare a [.LtE,.LtE] [b,c] _=>if jm c then au (fL leD leD (rd n S a) (rd n S b) (rd n S c))else noV
  |e=>if yT e thenλU=>(rd n S e U).bind xx else noV
def rb:Nat->Sn->BoolOp->List Expr->Pos->Vv->Option Bool
 |0=>λ_ _ _ _=>noV
 |n+1=>λS op vs p=>match op,vs with
  |.And,[a]=>rq n S a
  |.Or,[a]=>rq n S a
  |.And,a::b::r=>xw (rq n S a) (rb n S .And (b::r) p)
  |.Or,a::b::r=>orQ (rq n S a) (rb n S .Or (b::r) p)
  |_,_=>noV
def rx:Nat->Sn->List Expr->Vv->Option (List D)
 |0=>λ_ _=>noV
 |n+1=>λS es=>match es with
  |[]=>λ_=>some []
  |a::as=>if aQ a then aa (rd n S a) (rx n S as)else noV
def ro:Nat->Sn->Option Expr->Vv->Option (Option Int)
 |0=>λ_ _=>noV
 |n+1=>λS e=>match e with
  |none=>λ_=>some none
  |some e=>xP (rd n S e)
def rm:Nat->Sn->Expr->Vv->Option D
 |0=>λ_ _=>noV
 |n+1=>λS a=>match yU a with
  |some x=>mxV (nmF S x)
  |none=>match cmK a with
   |some z=>(match bf S z.2.2.1 with
    |some i=>if ir S z.2.2.2.2 then mxC (rE i (rO S.N z.2.2.2.2.names) (tgV {S with nm:=z.2.2.2.2.names} n z.2.1) (rqs n {S with nm:=z.2.2.2.2.names} z.2.2.2.1) (rd n {S with nm:=z.2.2.2.2.names} z.1))else noV
    |none=>noV)
   |none=>noV
def rf:Nat->Sn->Expr->Vv->Option (List D)
 |0=>λ_ _=>noV
 |n+1=>λS e=>match e with
  |.List es _=>λU=>b9 (rx n S es U)
  |.ListComp elt [g] sc _=>if ir S sc&&jm g.iter&&decide (g.is_async=0)then
    aw (rO S.N sc.names) (rj n S g.target g.iter) (tgV {S with nm:=sc.names} n g.target) (rqs n {S with nm:=sc.names} g.ifs) (rd n {S with nm:=sc.names} elt)else noV
  |.BinOp a .Add b _=>p8 (if Ig a then orO (rd n S a) (λU=>(rf n S a U).map D.lst)else rd n S a) (rd n S b)
  |.Call (.Name f _) [a] [] _=>if f=("list":Str)/\glS S f=true/\S.G.no f=true/\aQ a=true then orO (rv n S a) (λU=>(rx n S [a] U).bind jh)
   else if f=("sorted":Str)/\glS S f=true/\S.G.no f=true/\aQ a=true thenλU=>(rx n S [a] U).bind kX else noV
  |_=>noV
def rv:Nat->Sn->Expr->Vv->Option (List D)
 |0=>λ_ _=>noV
 |n+1=>λS e=>match e with
  |.Call (.Name f _) [a] [] _=>if f=("range":Str)/\glS S f=true/\S.G.no f=true/\glS S "list"=true/\S.G.no "list"=true/\aQ a=true thenλU=>(rx n S [a] U).bind lrD else noV
  |_=>noV
def rqs:Nat->Sn->List Expr->Vv->Option Bool
 |0=>λ_ _=>noV
 |n+1=>λS es=>match es with
  |[]=>λ_=>some true
  |[c]=>rq n S c
  |_=>noV
def rj:Nat->Sn->Expr->Expr->Vv->Option (List D)
 |0=>λ_ _ _=>noV
 |n+1=>λS tg e=>orO (match e with
  |.Call (.Name f _) [a] [] _=>if f=("range":Str)/\glS S f=true/\S.G.no f=true/\aQ a=true thenλU=>(rx n S [a] U).bind rc
   else if f=("enumerate":Str)/\glS S f=true/\S.G.no f=true/\aQ a=true/\KE tg=true thenλU=>(rx n S [a] U).bind ye else noV
  |_=>noV) λU=>(rd n S e U).bind cA
end
section
variable {X:Cx} {S:Sn} {e:Expr} {es:List Expr} {pos:Pos}
theorem PP.u (h:PP X e f) (hc:bT e=false):PPu X e f:=λO U=>(h O U).pu hc
theorem PPu.p (h:PPu X e f):PP X e f:=λO U=>(h O U).1
theorem PF.u (h:PF X e f) (hc:bT e=false):PFu X e f:=λO U=>(h O U).pu hc
theorem yV:PQ X e noV:=λO U pins s Y H Q I ⟨_,_,q,_⟩=>by cases q
theorem yW:PWQ X e noV:=λO U wh pins s Y H Q I ⟨_,_,q,_⟩=>by cases q
theorem Db:PX X es noV:=λO U pos pins s Y H Q I ⟨_,_,q,_⟩=>by cases q
theorem yX:PQs X es noV:=λO U pins s Y H Q I ⟨_,_,q,_⟩=>by cases q
theorem yY:PJ X tg e noV:=λO U pins s Y H R I ⟨_,_,q,_⟩=>by cases q
theorem EQ {e}:PPo X e noV:=λO U pins s Y H Q I ⟨_,_,q,_⟩=>by cases q
theorem Ih (h1:PJ X tg e f) (h2:PJ X tg e g):PJ X tg e (orO f g):=λO U pins s Y H R I ⟨E,ds,q,k⟩=>by
 rcases or_some q with q|q
 ·exact h1 O U pins s Y H R I ⟨E,ds,q,k⟩
 ·exact h2 O U pins s Y H R I ⟨E,ds,q,k⟩
theorem BP {K} (h:tP K O U (o.map D.lst) Y H Q):tPF K O U o Y H Q:=by
 obtain⟨E,d,e,k⟩:=h;cases o with
 |none=>cases e
 |some ds=>
  cases e;refine⟨E,ds,rfl,λp xs H' s hp l=>?_⟩;have hO:=(E.grow s).fresh hp;exact k _ _ (s.trans (Same.new hp)) ⟨p,xs,rfl,.of (by rw[aK hO,upd_same]),IsL.mono (Same.new hp).msk _ _ l⟩
theorem PFu.pp (h:PFu X e f):PPu X e (λU=>(f U).map D.lst):=λO U=>(h O U).imp λY H Q q=>BP q
theorem ER (h1:PFu X e f) (h2:PFu X e g):PFu X e (orO f g):=λO U=>(h1 O U).by2 (h2 O U) λY H Q ⟨E,ds,q,k⟩=>by
 rcases or_some q with q|q
 ·exact .inl ⟨E,ds,q,k⟩
 ·exact .inr ⟨E,ds,q,k⟩
theorem yZ (hc:X.calm=true) (C:CSc X scope ks) (hi:PJ X tg iter fi) (hg:∀C s H fp,PGD (cxC X scope C s H fp) ks tg g) (ht:∀C s H fp,PQs (cxC X scope C s H fp) ifs ft) (he:∀C s H fp,PP (cxC X scope C s H fp) elt fe) (hs:∀x,foldedSetIterable iter X.env x=pure x):PFu X (.ListComp elt [⟨tg,iter,ifs,0⟩] scope pos) (aw ks fi g ft fe):=λO U=>
 (uS hc C (hi O U) (λC s H fp=>PG.ex λz:(Addr->Bool)×Vv×D=>hg C s H fp z.1 z.2.1 z.2.2) (λC s H fp=>PTs.ex λz:(Addr->Bool)×Vv=>ht C s H fp z.1 z.2) (λC s H fp=>PE.ex λz:(Addr->Bool)×Vv=>he C s H fp z.1 z.2) hs).imp λY H Q h=>re h
theorem BQ (hc:X.calm=true) (C:CSc X scope ks) (hi:PJ X tg iter fi) (hg:∀C s H fp,PGD (cxC X scope C s H fp) ks tg g) (ht:∀C s H fp,PQs (cxC X scope C s H fp) ifs ft) (he:∀C s H fp,PFr (cxC X scope C s H fp) elt fe) (hs:∀x,foldedSetIterable iter X.env x=pure x):PFr X (.ListComp elt [⟨tg,iter,ifs,0⟩] scope pos) (λU=>(aw ks fi g ft fe U).bind λds=>some (.lst ds)):=λU=>
 (uS hc C (hi noO U) (λC s H fp=>PG.ex λz:(Addr->Bool)×Vv×D=>hg C s H fp z.1 z.2.1 z.2.2) (λC s H fp=>PTs.ex λz:(Addr->Bool)×Vv=>ht C s H fp z.1 z.2) (λC s H fp=>PE.ex λz:Vv=>(he C s H fp z).1) hs).imp λY H Q h=>tq h
theorem BR (c:Const):PP X (.Constant c j pos) (yS c):=by
 cases c<;>first|exact pp_int|exact pp_bl|exact pp_non|exact pp_str|exact pp_no
structure Snd (n:Nat):Prop where
 rd:∀X S,SnOk X S->∀e,PPu X e (rd n S e)
 rl:∀X S,SnOk X S->∀op vs p,PP X (.BoolOp op vs p) (rl n S op vs p)
 rq:∀X S,SnOk X S->∀e,PQ X e (rq n S e)
 rb:∀X S,SnOk X S->∀op vs p,PWQ X (.BoolOp op vs p) (rb n S op vs p)
 rx:∀X S,SnOk X S->∀es,PX X es (rx n S es)
 rm:∀X S,SnOk X S->glS S "max"=true->S.G.no "max"=true->∀a p q,PP X (.Call (.Name "max" p) [a] [] q) (rm n S a)
 ro:∀X S,SnOk X S->∀e,PPo X e (ro n S e)
 rf:∀X S,SnOk X S->∀e,PFu X e (rf n S e)
 rv:∀X S,SnOk X S->∀e p q,PFu X (.Call (.Name "list" p) [e] [] q) (rv n S e)
 rqs:∀X S,SnOk X S->∀es,PQs X es (rqs n S es)
 rj:∀X S,SnOk X S->∀tg e,PJ X tg e (rj n S tg e)
theorem lastM (h:jm c=true):lastMarks [.LtE,.LtE] [b,c]=false:=noSet_mark h
theorem KF (n:Nat) (I:Snd n) (o:SnOk X S) (e:Expr):PPu X e (rd (n+1) S e):=by
 have P:=λe=>(I.rd X S o e).p;have no:PPu X e noV:=pT;unfold L2.rd;split
 ·exact(BR _).u rfl
 ·exact(qd o _).u rfl
 ·exact(Ic _ (P _) (P _)).u rfl
 ·split
  ·exact(D8 (P _)).u rfl
  ·exact(xN (P _)).u rfl
  ·exact no
 ·exact(I.rl X S o _ _ _).u rfl
 ·split
  ·exact(Ie o _ (P _) (P _)).u rfl
  ·split
   ·rename_i h;exact(pp_lele (P _) (P _) (P _) (lastM h)).u rfl
   ·exact no
  ·exact no
 ·exact(Hx (I.rq X S o _) (P _) (P _)).u rfl
 ·exact(xy (I.rx X S o _)).u rfl
 ·split
  ·exact(Es (qd o _) (λC Ca h1 h2=>o.g.fl C _ Ca h1 h2) rfl).u rfl
  ·exact no
 ·split
  ·rename_i h;exact(pp_ix (P _) (P _) (noSl_ok h)).u rfl
  ·exact no
 ·split
  ·split
   ·rename_i h;unfold mxA at h;simp only[and_eq_true,decide_eq_true_eq,List.isEmpty_iff]at h;obtain⟨⟨⟨⟨rfl,h1⟩,h2⟩,rfl⟩,_⟩:=h;exact(I.rm X S o h1 h2 _ _ _).u rfl
   ·refine xS ?_ (I.rf X S o _).pp;split
    ·rename_i h;exact(k_call o _ (I.rx X S o _) h).u rfl
    ·exact pT
  ·split
   ·split
    ·rename_i h;unfold Da at h;rw[and_eq_true,and_eq_true]at h;exactλO U=>(Eu (wg (qd o _) (λC k f q=>o.g.mt _ C k f q) o.room h.2 O U)).pu rfl
    ·exact no
   ·exact no
  ·exact no
 ·exact(I.rf X S o _).pp
 ·exact(I.rf X S o _).pp
 ·exact no
theorem KG (n:Nat) (I:Snd n) (o:SnOk X S) (op:BoolOp) (vs:List Expr) (p:Pos):PP X (.BoolOp op vs p) (rl (n+1) S op vs p):=by
 have P:=λe=>(I.rd X S o e).p;unfold L2.rl;split
 ·exact D6 (P _)
 ·exact D7 (P _) (I.rl X S o _ _ _)
 ·exact Hw (P _) (I.rl X S o _ _ _)
 ·exact pp_no
theorem KH (n:Nat) (I:Snd n) (o:SnOk X S) (e:Expr):PQ X e (rq (n+1) S e):=by
 have P:=λe=>(I.rd X S o e).p;unfold L2.rq;split
 ·exact D9 (I.rq X S o _)
 ·exact(I.rb X S o _ _ _).pq
 ·exact EO o _ (P _) (P _)
 ·split
  ·rename_i h;exact pq_lele (P _) (P _) (P _) (lastM h)
  ·exact yV
 ·split
  ·rename_i h;exact pq_val (P _) (plainT_ok h)
  ·exact yV
theorem KI (n:Nat) (I:Snd n) (o:SnOk X S) (op:BoolOp) (vs:List Expr) (p:Pos):PWQ X (.BoolOp op vs p) (rb (n+1) S op vs p):=by
 unfold L2.rb;split
 ·exact pw_and1D (I.rq X S o _)
 ·exact pw_or1D (I.rq X S o _)
 ·exact pw_andD (I.rq X S o _) (I.rb X S o _ _ _)
 ·exact pw_orD (I.rq X S o _) (I.rb X S o _ _ _)
 ·exact yW
theorem KJ (n:Nat) (I:Snd n) (o:SnOk X S) (es:List Expr):PX X es (rx (n+1) S es):=by
 unfold L2.rx;split
 ·exact pP
 ·split
  ·rename_i h;exact px_cons (I.rd X S o _).p (I.rx X S o _) (star1 h)
  ·exact Db
theorem KL (n:Nat) (I:Snd n) (o:SnOk X S) (e:Option Expr):PPo X e (ro (n+1) S e):=by
 cases e with
 |none=>exact xO
 |some e=>exact xQ (I.rd X S o _).p
theorem Ii (n:Nat) (I:Snd n) (o:SnOk X S) (es:List Expr):PQs X es (rqs (n+1) S es):=by
 unfold L2.rqs;split
 ·exact Bd
 ·exact Be (I.rq X S o _)
 ·exact yX
theorem ES:bootBuiltins "list"=some (.type "list"):=by decide+kernel
theorem KM (n:Nat) (I:Snd n) (o:SnOk X S) (e:Expr):PFu X e (rf (n+1) S e):=by
 have P:=λe=>(I.rd X S o e).p;unfold L2.rf;split
 ·exact(Ea (I.rx X S o _)).u rfl
 ·rename_i elt g sc p;split
  ·rename_i h;rw[and_eq_true,and_eq_true]at h;obtain⟨tg,iter,ifs,as⟩:=g;have ha:as=0:=of_decide_eq_true h.2;subst ha;have hb:=nk o h.1.1;exact yZ o.calm (qf o h.1.1) (I.rj X S o _ _) (λC s H fp=>(yR (hb C s H fp) n).1 tg) (λC s H fp=>I.rqs _ _ (hb C s H fp) _) (λC s H fp=>(I.rd _ _ (hb C s H fp) _).p) (d4 h.1.2)
  ·exact iV
 ·refine(EC ?_ (P _)).u rfl;split
  ·exact(xS (I.rd X S o _) (I.rf X S o _).pp).p
  ·exact P _
 ·split
  ·rename_i h;obtain⟨rfl,h1,h2,h3⟩:=h;obtain⟨ok,gl⟩:=bc o h1;exact ER (I.rv X S o _ _ _) ((A7 gl (o.g.no _ h2) ES (I.rx X S o _) (star1 h3)).u rfl)
  ·split
   ·rename_i h;obtain⟨rfl,h1,h2,h3⟩:=h;obtain⟨ok,gl⟩:=bc o h1;exact(BD gl (o.g.no _ h2) (I.rx X S o _) (star1 h3)).u rfl
   ·exact iV
 ·exact iV
theorem bS (h:cb e=some x):∃p,e=.Name x p:=by
 cases e<;>first|(cases h;exact⟨_,rfl⟩)|cases h
theorem wt (h:yU e=some x):∃p ap cp,e=.Call (.Attribute (.Name x p) "values" ap) [] [] cp/\(ap.endLine==cp.line)=true:=by
 unfold yU at h;split at h
 ·split at h
  ·split at h
   ·rename_i c;obtain⟨h1,h2⟩:=c;obtain⟨p,rfl⟩:=bS h;subst h1;exact⟨_,_,_,rfl,h2⟩
   ·cases h
  ·cases h
 ·cases h
theorem y0 (h:cmK e=some (elt,tg,x,ifs,sc)):∃p q,e=.ListComp elt [⟨tg,.Name x p,ifs,0⟩] sc q:=by
 unfold cmK at h;split at h
 ·split at h
  ·rename_i g;split at h
   ·rename_i h1;obtain⟨y,h2,h⟩:=bind_some h;obtain⟨tg',iter,ifs',as⟩:=g;obtain⟨p,rfl⟩:=bS h2;have h1:as=0:=h1;subst h1;cases h;exact⟨_,_,rfl⟩
   ·cases h
  ·cases h
 ·cases h
theorem KN (n:Nat) (I:Snd n) (o:SnOk X S) (h1:glS S "max"=true) (h2:S.G.no "max"=true) (a:Expr) (p q:Pos):PP X (.Call (.Name "max" p) [a] [] q) (rm (n+1) S a):=by
 obtain⟨_,gl⟩:=bc o h1;have hm:=o.g.no _ h2;unfold L2.rm;cases hv:yU a with
 |some x=>
  obtain⟨p,ap,cp,rfl,hl⟩:=wt hv;exact EH o.calm gl hm (qd o _) rfl hl
 |none=>
  dsimp only;cases hc:cmK a with
  |none=>exact pp_no
  |some z=>
   obtain⟨elt,tg,x,ifs,sc⟩:=z;obtain⟨px,qx,rfl⟩:=y0 hc;dsimp only;cases hi:bf S x with
   |none=>exact pp_no
   |some i=>
    dsimp only;split
    ·rename_i h;have hb:=nk o h;obtain⟨g1,g2,g3,_⟩:=aT o hi;exact EI o.calm gl hm (yu o.calm (qf o h) g3 g2 (bn g1).1 (bn g1).2.1 (λC s H fp=>(yR (hb C s H fp) n).1 tg) (λC s H fp=>I.rqs _ _ (hb C s H fp) _) (λC s H fp=>(I.rd _ _ (hb C s H fp) _).p) λ_=>rfl) rfl
    ·exact pp_no
theorem KO (n:Nat) (I:Snd n) (o:SnOk X S) (e:Expr) (p q:Pos):PFu X (.Call (.Name "list" p) [e] [] q) (rv (n+1) S e):=by
 unfold L2.rv;split
 ·split
  ·rename_i h;obtain⟨rfl,h1,h2,h3,h4,h5⟩:=h;obtain⟨ok,gl⟩:=bc o h1;obtain⟨ok2,gl2⟩:=bc o h3;exact(BK o.calm gl2 (o.g.no _ h4) gl (o.g.no _ h2) (I.rx X S o _) (star1 h5)).u rfl
  ·exact iV
 ·exact iV
theorem KP (n:Nat) (I:Snd n) (o:SnOk X S) (tg e:Expr):PJ X tg e (rj (n+1) S tg e):=by
 unfold L2.rj;refine Ih ?_ (Ed (I.rd X S o _).p);split
 ·split
  ·rename_i h;obtain⟨rfl,h1,h2,h3⟩:=h;obtain⟨ok,gl⟩:=bc o h1;exact wb gl (o.g.no _ h2) (I.rx X S o _) (star1 h3)
  ·split
   ·rename_i h;obtain⟨rfl,h1,h2,h3,h4⟩:=h;obtain⟨ok,gl⟩:=bc o h1;cases tg<;>first
     |exact EB gl (o.g.no _ h2) (I.rx X S o _) (star1 h3)
     |cases h4
   ·exact yY
 ·exact yY
theorem sound:∀n,Snd n
 |0=>⟨λ_ _ _ _=>pT,λ_ _ _ _ _ _=>pp_no,λ_ _ _ _=>yV,λ_ _ _ _ _ _=>yW,λ_ _ _ _=>Db,λ_ _ _ _ _ _ _ _=>pp_no,λ_ _ _ _=>EQ,λ_ _ _ _=>iV,λ_ _ _ _ _ _=>iV,λ_ _ _ _=>yX,λ_ _ _ _ _=>yY⟩
 |n+1=>⟨λX S o e=>KF n (sound n) o e,λX S o op vs p=>KG n (sound n) o op vs p,λX S o e=>KH n (sound n) o e,λX S o op vs p=>KI n (sound n) o op vs p,λX S o es=>KJ n (sound n) o es,λX S o h1 h2 a p q=>KN n (sound n) o h1 h2 a p q,λX S o e=>KL n (sound n) o e,
  λX S o e=>KM n (sound n) o e,λX S o e p q=>KO n (sound n) o e p q,λX S o es=>Ii n (sound n) o es,λX S o tg e=>KP n (sound n) o tg e⟩
end
mutual
def fr:Nat->Sn->Expr->Vv->Option D
 |0=>λ_ _=>noV
 |n+1=>λS e=>orO (λU=>lfO (rd n S e U)) (orO (λU=>gE (rf n S e U)) (match e with
  |.List es _=>λU=>(b9 (frl n S es U)).bind λds=>some (.lst ds)
  |.Tuple es _ _=>λU=>(b9 (frl n S es U)).bind λds=>some (.tup ds)
  |.Dict [] [] _=>λ_=>some (.dct [] [])
  |.ListComp elt [g] sc _=>if ir S sc&&jm g.iter&&decide (g.is_async=0)then
   λU=>(aw (rO S.N sc.names) (rj n S g.target g.iter) (tgV {S with nm:=sc.names} n g.target) (rqs n {S with nm:=sc.names} g.ifs) (fr n {S with nm:=sc.names} elt) U).bind λds=>some (.lst ds)else noV
  |.Call (.Name f _) (a::as) [] _=>if(a::as).all aQ thenλU=>(rx n S (a::as) U).bind (yL S f)else noV
  |_=>noV))
def frl:Nat->Sn->List Expr->Vv->Option (List D)
 |0=>λ_ _=>noV
 |n+1=>λS es=>match es with
  |[]=>λ_=>some []
  |a::as=>if aQ a then aa (fr n S a) (frl n S as)else noV
end
section
variable {X:Cx} {S:Sn} {e:Expr} {es:List Expr} {pos:Pos}
theorem tW:rh X es noV:=λU pos pins s Y H Q I ⟨_,_,q,_⟩=>by cases q
theorem Ij:∀n,(∀X S,SnOk X S->∀e,PFr X e (fr n S e))/\∀X S,SnOk X S->∀es,rh X es (frl n S es):=by
 intro n;induction n with
 |zero=>exact⟨λX S o e=>rp,λX S o es=>tW⟩
 |succ n ih=>
  refine⟨λX S o e=>?_,λX S o es=>?_⟩
  ·unfold fr;refine C0 (CZ ((sound n).rd X S o e)) (C0 (xR ((sound n).rf X S o e)) ?_);split
   ·exact xU (ih.2 X S o _)
   ·exact Ek (ih.2 X S o _)
   ·exact ED
   ·rename_i elt g sc p;split
    ·rename_i h;rw[and_eq_true,and_eq_true]at h;obtain⟨tg,iter,ifs,as⟩:=g;have ha:as=0:=of_decide_eq_true h.2;subst ha;have hb:=nk o h.1.1;exact BQ o.calm (qf o h.1.1) ((sound n).rj X S o _ _) (λC s H fp=>(yR (hb C s H fp) n).1 tg) (λC s H fp=>(sound n).rqs _ _ (hb C s H fp) _) (λC s H fp=>ih.1 _ _ (hb C s H fp) _) (d4 h.1.2)
    ·exact rp
   ·split
    ·rename_i h;exact k_callR o _ ((sound n).rx X S o _) h
    ·exact rp
   ·exact rp
  ·unfold frl;split
   ·exact uT
   ·split
    ·rename_i h;exact frs_cons (ih.1 X S o _) (ih.2 X S o _) (star1 h)
    ·exact tW
end
def ev (n:Nat) (S:Sn) (e:Expr):Ev->Option (Sl×Ev):=orO (fN (fr n S e)) (orO (kR (rf n S e)) (orO (tu (rd n S e)) (xV (rd n S e))))
theorem tX (n:Nat) (o:SnOk X S) (e:Expr):PEv X e (ev n S e):=kT (rz ((Ij n).1 X S o e)) (kT (pU ((sound n).rf X S o e)) (kT (xW ((sound n).rd X S o e)) (C3 ((sound n).rd X S o e))))
structure TnOk (X:Cx) (S:Sn):Prop where
 s:SnOk X S
 fn:∀x,X.fn x=true
 nox:X.xe=λ_ _=>False
 nm:X.env.scope.names=S.nm
def pf (S:Sn) (x:Str):Option Nat:=if eL x&&(decide (S.nm.lookup x=some .local)||decide (S.nm.lookup x=some .cell))then pX S.N x else none
def noO':Ev->Option Out:=λ_=>none
def Dc:Expr->Bool
 |.Constant (.str _) _ _=>true
 |_=>false
def tY:Expr->Bool
 |.Call _ _ _ _=>true
 |.Name _ _=>true
 |.Subscript _ _ _=>true
 |_=>false
def exR (n:Nat) (S:Sn):Option Expr->Ev->Option Out
 |none=>λ_=>some (.rt (.deep,.non))
 |some e=>match cb e with
  |some x=>(match bf S x with|some i=>λU=>(eX U i).bind λs=>some (.rt s)|none=>cw (ev n S e))
  |none=>cw (ev n S e)
def Dd (S:Sn):Expr->List Nat
 |.List es _=>es.filterMap λe=>(cb e).bind (bf S)
 |_=>[]
def evL (is:List Nat) (F:Vv->Option D) (L:Vv->Option (List D)) (R:Vv->Option D):Ev->Option (Sl×Ev):=orO (fN F) (orO (kR L) (orO (tu R) (orO (λU=>kR L (frzS is U)) (xV R))))
def evA (n:Nat) (S:Sn) (e:Expr):Ev->Option (Sl×Ev):=if(Dd S e).isEmpty then ev n S e else evL (Dd S e) (fr n S e) (rf n S e) (rd n S e)
def y6 (n:Nat) (S:Sn) (t e:Expr):Ev->Option Out:=match t with
 |.Name x _=>(match pf S x with|some i=>aN i (evA n S e)|none=>noO')
 |.Subscript o k _=>(match cb o with
  |some x=>if BO k&&!bT e then(match bf S x with|some i=>orO (gI i (rd n S k) (ev n S e)) (yo i (rd n S k) (rd n S e))|none=>noO')else noO'
  |none=>noO')
 |.Tuple ts k p=>if tY e then orO (HL (rd n S e) (tgE S n (.Tuple ts k p))) (HM (rd n S e) (tgE S n (.Tuple ts k p)))else noO'
 |_=>noO'
def exA (n:Nat) (S:Sn) (ts:List Expr) (e:Expr):Ev->Option Out:=match ts with
 |[t]=>y6 n S t e
 |_=>noO'
def y7 (i j:Nat) (g:Ev->Option (Sl×Ev)) (R:Vv->Option D):Ev->Option Out:=orO (iB i g) (iB i λU=>tu R (frzS [j] U))
def wu:Expr->Option (Str×Expr)
 |.Call (.Attribute o m ap) [e] [] cp=>if m=("pop":Str)/\aQ e=true/\(ap.endLine==cp.line)=true then(cb o).bind λy=>some (y,e)else none
 |_=>none
def ET (n:Nat) (S:Sn) (i:Nat) (m:Str) (e:Expr):Ev->Option Out:=if m=("append":Str)then(match wu e with
 |some (y,a)=>(match bf S y with|some j=>gpF i j (rd n S a)|none=>noO')
 |none=>match(cb e).bind (bf S)with
 |some j=>y7 i j (ev n S e) (rd n S e)
 |none=>iB i (ev n S e))else if m=("extend":Str)then p9 i (rd n S e)else noO'
def m1E:Expr->Bool
 |.UnaryOp .USub (.Constant (.int i) _ _) _=>decide (i=1)
 |_=>false
def c1E:Expr->Bool
 |.Constant (.int i) _ _=>decide (i=1)
 |_=>false
def BS:Expr->Option (Str×Expr)
 |.Subscript o k _=>(cb o).bind λx=>some (x,k)
 |_=>none
def exG (n:Nat) (S:Sn) (o k:Expr) (m:Str) (e:Expr):Ev->Option Out:=match BS o with
 |some (x,k1)=>(match wu e with
  |some (y,e')=>if m=("append":Str)/\m1E k1=true/\c1E k=true then(match bf S x with
   |some i=>(match bf S y with|some j=>wq i j (rd n S e')|none=>noO')
   |none=>noO')else noO'
  |none=>noO')
 |none=>noO'
def exM (n:Nat) (S:Sn) (o:Expr) (m:Str) (e:Expr):Ev->Option Out:=match o with
 |.Name x _=>(match bf S x with|some i=>ET n S i m e|none=>noO')
 |.Subscript o k _=>(match(cb o).bind (bf S)with|some _=>noO'|none=>exG n S o k m e)
 |_=>noO'
def vf:Expr->Option (Expr×Str×Pos×Expr×Pos)
 |.Call (.Attribute o m apos) [e] [] cpos=>some (o,m,apos,e,cpos)
 |_=>none
def exV (n:Nat) (S:Sn) (e:Expr):Ev->Option Out:=if bT e then noO' else mQ (rd n S e)
def exX (n:Nat) (S:Sn) (e:Expr):Ev->Option Out:=if Dc e thenλU=>some (.nx U)else match vf e with
 |some (o,m,apos,a,cpos)=>if aQ a&&(apos.endLine==cpos.line)then exM n S o m a else noO'
 |none=>exV n S e
def Ik:List Stmt->Bool
 |.Assign [.Name _ _] (.Subscript _ _ _) _::_=>true
 |[.Expr (.Call (.Attribute (.Name _ _) _ _) [_] [] _) _]=>true
 |_=>false
def KQ (S:Sn) (iter:Expr) (body:List Stmt):Option Nat:=if Ik body then(cb iter).bind (bf S)else none
def Il:List Stmt->Bool
 |[st]=>(match st with
  |.Assign _ e _=>(match e with
   |.Call f _ _ _=>decide (cb f=some ("max":Str))
   |_=>false)
  |_=>false)
 |_=>false
def De (S:Sn) (iter:Expr) (body:List Stmt):Option Nat:=if Il body then(cb iter).bind (bf S)else none
mutual
def ex:Nat->Sn->Stmt->Ev->Option Out
 |0=>λ_ _=>noO'
 |n+1=>λS st=>match st with
  |.Return v _=>exR n S v
  |.Assign ts e _=>exA n S ts e
  |.If c a b _=>ifS (rq n S c) (exs n S a) (exs n S b)
  |.For tg iter body els _=>if els.isEmpty&&jm iter then(match De S iter body with
   |some i=>yt i (tgE S n tg) (exs n S body)
   |none=>match KQ S iter body with
   |some i=>orO (gG (rj n S tg iter) (tgE S n tg) (exs n S body)) (orO (λU=>gG (rj n S tg iter) (tgE S n tg) (exs n S body) (frzS [i] U)) (x4 (rj n S tg iter) (tgE S n tg) (exs n S body)))
   |none=>orO (gG (rj n S tg iter) (tgE S n tg) (exs n S body)) (x4 (rj n S tg iter) (tgE S n tg) (exs n S body)))else noO'
  |.Pass _=>λU=>some (.nx U)
  |.Break _=>λU=>some (.bk U)
  |.Continue _=>λU=>some (.ct U)
  |.Expr e _=>exX n S e
  |_=>noO'
def exs:Nat->Sn->List Stmt->Ev->Option Out
 |0=>λ_ _=>noO'
 |n+1=>λS st=>match st with
  |[]=>λU=>some (.nx U)
  |s::r=>ah (ex n S s) (exs n S r)
end
section
variable {X:Cx} {S:Sn}
theorem iX (o:TnOk X S) (h:pf S x=some i):eL x=true/\Loc X.env.scope x/\X.N[i]?=some x:=by
 unfold pf at h;split at h
 ·rename_i c;rw[and_eq_true,Bool.or_eq_true]at c;refine⟨c.1,?_,by rw[o.s.N];exact eZ h⟩;rcases c.2 with c|c
  ·exact .inl (o.s.loc _ (of_decide_eq_true c))
  ·exact .inr (o.s.cel _ (of_decide_eq_true c))
 ·cases h
theorem swaps_name (e:Expr) (x:Str) (p:Pos) (l:Nat) (env:Env):swapsWith e (some (.Name x p)) l env=pure false\/(swapsWith e (some (.Name x p)) l env=pure true/\env.scope.names.lookup x=some .local):=by
 have key:∀ (b1 b2 b3:Bool),(pure (b1&&(env.kindOf x==some .local)&&b2&&b3):Sem Bool)=pure false\/((pure (b1&&(env.kindOf x==some .local)&&b2&&b3):Sem Bool)=pure true/\env.scope.names.lookup x=some .local):=λb1 b2 b3=>by
  cases hk:(env.kindOf x==some NameKind.local)with
  |false=>left;cases b1<;>rfl
  |true=>
   have hl:env.scope.names.lookup x=some .local:=by
    have hk':env.kindOf x=some .local:=by simpa using hk
    exact hk'
   cases b1<;>cases b2<;>cases b3<;>first|exact .inl rfl|exact .inr ⟨rfl,hl⟩
 cases e<;>first
  |exact .inl rfl
  |exact key _ _ _
theorem bJ {st}:PR X st noO':=xY
theorem d6 (h:eL x=true):(x==("__debug__":Str))=false/\(x==("__classdict__":Str))=false:=⟨(bn h).1,(bn h).2.1⟩
theorem y8 (h:BO ik=true):∀v,assign (.Subscript (.Name x px) ik spos) env v=(do
  let ov<-holding [v] (eval (.Name x px) env)
  let iv<-holding [v,ov] (eval ik env)
  standAt spos
  holding [v,ov,iv] (setItem ov iv v)
  release [v,ov,iv] []):=by
 intro v
 cases ik<;>first|rfl|cases h
theorem mf (h:bT e=false):swapsWithSole [t] e l env=pure false:=by
 show swapsWith e (some t) l env=pure false;exact swaps_no h _ _ _
theorem vg:swappedStores [.Subscript (.Name x px) ik spos] e env=pure none:=by
 cases e<;>rfl
theorem rS (h:tY e=true):swappedStores [t] e env=pure none:=by
 cases e<;>first|rfl|(cases t<;>rfl)|cases h
theorem nn (h:tY e=true):bT e=false:=by
 cases e<;>first|rfl|cases h
theorem t5 (h:Dc e=true):∃x k p,e=.Constant (.str x) k p:=by
 cases e with
 |Constant c k p=>cases c<;>first|exact⟨_,_,_,rfl⟩|cases h
 |_=>cases h
theorem t6 (h:vf e=some (o,m,ap,a,cp)):e=.Call (.Attribute o m ap) [a] [] cp:=by
 unfold vf at h;split at h
 ·cases h;rfl
 ·cases h
theorem Im (n:Nat) (o:TnOk X S) (v:Option Expr):PR X (.Return v pos) (exR n S v):=by
 cases v with
 |none=>exact Bl
 |some e=>
  unfold exR;dsimp only;cases h:cb e with
  |none=>exact tw (tX n o.s _)
  |some x=>
   obtain⟨p,rfl⟩:=bS h;dsimp only;cases hi:bf S x with
   |none=>exact tw (tX n o.s _)
   |some i=>
    obtain⟨h1,h2,h3,_⟩:=aT o.s hi;obtain⟨a,b⟩:=d6 h1;exact tz i h3 h2 a b
theorem s_evA (n:Nat) (o:SnOk X S) (e:Expr):PEv X e (evA n S e):=by
 unfold evA;split
 ·exact tX n o e
 ·exact kT (rz ((Ij n).1 X S o e)) (kT (pU ((sound n).rf X S o e)) (kT (xW ((sound n).rd X S o e)) (kT (yh _ (pU ((sound n).rf X S o e))) (C3 ((sound n).rd X S o e)))))
theorem EU (n:Nat) (o:TnOk X S) (t e:Expr):PR X (.Assign [t] e pos) (y6 n S t e):=by
 have P:=λe=>((sound n).rd X S o.s e).p;cases t with
 |Name x p=>
  unfold y6;dsimp only;cases hi:pf S x with
  |none=>exact bJ
  |some i=>
   obtain⟨h1,h2,h3⟩:=iX o hi;exact x0 (by rw[o.s.N];exact o.s.nd) h3 h2 (s_evA n o.s _) (.inl (o.fn _)) (swaps_name _ _ _ _ _)
 |Subscript ob k p=>
  unfold y6;dsimp only;cases hn:cb ob with
  |none=>exact bJ
  |some x=>
   obtain⟨px,rfl⟩:=bS hn;dsimp only;split
   ·rename_i h;rw[and_eq_true]at h;cases hi:bf S x with
    |none=>exact bJ
    |some i=>
     obtain⟨h1,h2,h3,_⟩:=aT o.s hi;obtain⟨a,b⟩:=d6 h1;exact oS (Er i (tX n o.s _) (P _) h3 h2 a b (y8 h.1) (mf (by simpa using h.2)) vg (asg1 rfl)) (EE i (P _) (P _) h3 h2 a b (y8 h.1) (mf (by simpa using h.2)) vg (asg1 rfl))
   ·exact bJ
 |Tuple ts k p=>
  unfold y6;dsimp only;split
  ·rename_i h;exact oS (Bq (P _) ((rR o.s o.fn n).1 _) (mf (nn h)) (rS h) (asg1 rfl)) (Br (P _) ((rR o.s o.fn n).1 _) (mf (nn h)) (rS h) (asg1 rfl))
  ·exact bJ
 |_=>exact bJ
theorem Io (n:Nat) (o:TnOk X S) (ts:List Expr) (e:Expr):PR X (.Assign ts e pos) (exA n S ts e):=by
 cases ts with
 |nil=>exact bJ
 |cons t r=>cases r with
  |nil=>exact EU n o t e
  |cons _ _=>exact bJ
theorem ph (h:wu e=some (y,a)):∃p ap cp,e=.Call (.Attribute (.Name y p) "pop" ap) [a] [] cp/\aQ a=true/\(ap.endLine==cp.line)=true:=by
 unfold wu at h;split at h
 ·split at h
  ·rename_i hc;obtain⟨rfl,h2,h3⟩:=hc;obtain⟨z,h1,h4⟩:=bind_some h;obtain⟨p,rfl⟩:=bS h1;cases h4;exact⟨_,_,_,rfl,h2,h3⟩
  ·cases h
 ·cases h
theorem EV (n:Nat) (o:TnOk X S) (m:Str) (e:Expr) (hi:bf S x=some i) (hs:aQ e=true) (hl:(ap.endLine==cp.line)=true):PR X (.Expr (.Call (.Attribute (.Name x px) m ap) [e] [] cp) pos) (ET n S i m e):=by
 obtain⟨h1,h2,h3,_⟩:=aT o.s hi;obtain⟨a,b⟩:=d6 h1;unfold ET;split
 ·rename_i hm;subst hm;cases hp:wu e with
  |some z=>
   obtain⟨y,a'⟩:=z;obtain⟨p2,ap2,cp2,rfl,hs2,hl2⟩:=ph hp;dsimp only;cases hj:bf S y with
   |none=>exact bJ
   |some j=>
    obtain⟨f1,f2,f3,_⟩:=aT o.s hj;obtain⟨c',d'⟩:=d6 f1;exact H9 i j ((sound n).rd X S o.s _).p h3 h2 a b f3 f2 c' d' (star1 hs2) hl hl2
  |none=>
  dsimp only;split
  ·exact oS (im i (tX n o.s _) h3 h2 a b (star1 hs) hl) (im i (yh _ (xW ((sound n).rd X S o.s e))) h3 h2 a b (star1 hs) hl)
  ·exact im i (tX n o.s _) h3 h2 a b (star1 hs) hl
 ·split
  ·rename_i hm;subst hm;exact wl i ((sound n).rd X S o.s e).p h3 h2 a b (star1 hs) hl
  ·exact bJ
theorem y9 (h:m1E k=true):PP X k (λ_=>some (.int (-1)))/\fI k:=by
 unfold m1E at h;split at h
 ·obtain rfl:=of_decide_eq_true h;exact⟨xN pp_int,λ_ _=>rfl⟩
 ·cases h
theorem za (h:c1E k=true):PP X k (λ_=>some (.int 1))/\fI k:=by
 unfold c1E at h;split at h
 ·obtain rfl:=of_decide_eq_true h;exact⟨pp_int,λ_ _=>rfl⟩
 ·cases h
theorem wv (h:BS e=some (x,k)):∃p sp,e=.Subscript (.Name x p) k sp:=by
 unfold BS at h;split at h
 ·obtain⟨y,h1,h2⟩:=bind_some h;obtain⟨p,rfl⟩:=bS h1;cases h2;exact⟨_,_,rfl⟩
 ·cases h
theorem Ip (n:Nat) (o:TnOk X S) (ob k:Expr) (m:Str) (e:Expr) (hl:(ap.endLine==cp.line)=true):PR X (.Expr (.Call (.Attribute (.Subscript ob k sp) m ap) [e] [] cp) pos) (exG n S ob k m e):=by
 unfold exG;cases h1:BS ob with
 |none=>exact bJ
 |some z=>
  obtain⟨x,k1⟩:=z;obtain⟨p1,sp1,rfl⟩:=wv h1;dsimp only;cases h2:wu e with
  |none=>exact bJ
  |some z=>
   obtain⟨y,a⟩:=z;obtain⟨p2,ap2,cp2,rfl,hs,hl2⟩:=ph h2;dsimp only;split
   ·rename_i h;obtain⟨rfl,hm,hc⟩:=h;cases hi:bf S x with
    |none=>exact bJ
    |some i=>
     dsimp only;cases hj:bf S y with
     |none=>exact bJ
     |some j=>
      obtain⟨g1,g2,g3,_⟩:=aT o.s hi;obtain⟨f1,f2,f3,_⟩:=aT o.s hj;obtain⟨c,d⟩:=d6 g1;obtain⟨c',d'⟩:=d6 f1;exact EM i j ((sound n).rd X S o.s _).p (y9 hm).1 (za hc).1 (y9 (X:=X) hm).2 (za (X:=X) hc).2 g3 g2 c d f3 f2 c' d' (star1 hs) hl hl2
   ·exact bJ
theorem Iq (n:Nat) (o:TnOk X S) (ob:Expr) (m:Str) (e:Expr) (hs:aQ e=true) (hl:(ap.endLine==cp.line)=true):PR X (.Expr (.Call (.Attribute ob m ap) [e] [] cp) pos) (exM n S ob m e):=by
 cases ob with
 |Name x p=>
  unfold exM;dsimp only;cases hi:bf S x with
  |none=>exact bJ
  |some i=>exact EV n o m e hi hs hl
 |Subscript ob k p=>
  unfold exM;dsimp only;cases hn:(cb ob).bind (bf S)with
  |none=>exact Ip n o ob k m e hl
  |some i=>
   exact bJ
 |_=>exact bJ
theorem Ir (n:Nat) (o:TnOk X S) (e:Expr):PR X (.Expr e pos) (exV n S e):=by
 unfold exV;split
 ·exact bJ
 ·rename_i h;exact Bm ((sound n).rd X S o.s e).p (swaps_no (by simpa using h) _ _ _)
theorem Iu (n:Nat) (o:TnOk X S) (e:Expr):PR X (.Expr e pos) (exX n S e):=by
 unfold exX;split
 ·rename_i h;obtain⟨x,k,p,rfl⟩:=t5 h;exact El
 ·cases hm:vf e with
  |some z=>
   obtain⟨ob,m,ap,a,cp⟩:=z;have:=t6 hm;subst this;dsimp only;split
   ·rename_i h;rw[and_eq_true]at h;exact Iq n o ob m a h.1 h.2
   ·exact bJ
  |none=>exact Ir n o e
theorem t9:∀n,(∀X S,TnOk X S->∀st,PR X st (ex n S st))/\∀X S,TnOk X S->∀st,PRs X st (exs n S st):=by
 intro n;induction n with
 |zero=>exact⟨λX S o e=>bJ,λX S o es=>xX⟩
 |succ n ih=>
  refine⟨λX S o st=>?_,λX S o st=>?_⟩
  ·have pass:PassesOwn (model X.prog X.w) X.A X.env X.xe:=by rw[o.nox];exact PassesOwn.never
   unfold ex;cases st with
   |Return v p=>exact Im n o v
   |Assign ts e p=>exact Io n o ts e
   |If c a b p=>
    exact HK ((sound n).rq X S o.s _) (ih.2 X S o _) (ih.2 X S o _)
   |For tg iter body els p=>
    dsimp only;split
    ·rename_i h;rw[and_eq_true]at h;cases els with
     |nil=>
      have F1:=Eo (pos:=p) pass o.s.calm ((sound n).rj X S o.s tg iter) ((rR o.s o.fn n).1 _) (ih.2 X S o body) (d4 h.2);have F2:=Bp (pos:=p) pass o.s.calm ((sound n).rj X S o.s tg iter) ((rR o.s o.fn n).1 _) (ih.2 X S o body) (d4 h.2);split
      ·rename_i i hk;unfold De at hk;split at hk
       ·obtain⟨x,h1,hi⟩:=bind_some hk;obtain⟨px,rfl⟩:=bS h1;obtain⟨g1,g2,g3,_⟩:=aT o.s hi;obtain⟨c,d⟩:=d6 g1;exact BG pass o.s.calm g3 g2 c d ((rR o.s o.fn n).1 _) (ih.2 X S o body) (d4 h.2)
       ·cases hk
      ·split
       ·exact oS F1 (oS (EL _ F1) F2)
       ·exact oS F1 F2
     |cons _ _=>cases h.1
    ·exact bJ
   |Pass p=>exact Bk
   |Break p=>exact xZ
   |Continue p=>exact rA
   |Expr e p=>exact Iu n o e
   |_=>exact bJ
  ·unfold exs;cases st with
   |nil=>exact pV
   |cons s r=>exact l8 (ih.1 X S o _) (ih.2 X S o _)
end
def zc:Expr->Option (Str×Str×Str)
 |.Call (.Name f _) [a] [] _=>(match a with|.Attribute o h _=>(cb o).bind λy=>some (f,y,h)|_=>none)
 |_=>none
theorem ua (q:zc e=some (f,y,h)):∃p px ap cp,e=.Call (.Name f p) [.Attribute (.Name y px) h ap] [] cp:=by
 unfold zc at q;split at q
 ·split at q
  ·obtain⟨z,h1,h2⟩:=bind_some q;obtain⟨p,rfl⟩:=bS h1;cases h2;exact⟨_,_,_,_,rfl⟩
  ·cases q
 ·cases q
def noI:InF:=λ_ _=>none
def Iv (S:Sn) (x:Addr) (i:Nat) (fl:Str->Bool) (y g f y2 h:Str) (G:InF):InF:=if y2=y/\fl h=true/\glS S f=true then(match S.G.fn f with
 |some (k,ff)=>if k<=S.k then yM x i g h ff G else noI
 |none=>noI)else noI
def inx:Nat->Sn->Addr->(Str->Bool)->List Stmt->InF
 |0=>λ_ _ _ _=>noI
 |n+1=>λS x fl st=>match st with
  |[]=>By
  |.Assign [.Attribute (.Name y _) f _] e _::r=>if fl f then(match bf S y with
   |some i=>(match zc e with
    |some (g,y2,h)=>Iv S x i fl y f g y2 h (inx n S x fl r)
    |none=>rC x i f (ev n S e) (inx n S x fl r))
   |none=>noI)else noI
  |s::r=>stI (ex n S s) (inx n S x fl r)
theorem Iw (o:TnOk X S) (c:Cls X.K Ca) (hfl:∀f,fl f=true->NoAttr X.K Ca f):∀n st,PIn X Ca x st (inx n S x fl st):=by
 have no:∀st,PIn X Ca x st noI:=λst B O U dx fd pins s Y H D I ⟨_,_,_,_,q,_⟩=>by cases q
 intro n;induction n with
 |zero=>exactλst=>no st
 |succ n ih=>
  intro st;unfold inx;split
  ·exact Ew
  ·split
   ·rename_i h;split
    ·rename_i i hi;obtain⟨h1,h2,h3,_⟩:=aT o.s hi;obtain⟨a,b⟩:=d6 h1;split
     ·rename_i g y2 hh hq;obtain⟨p,px,ap,cp,rfl⟩:=ua hq;unfold Iv;split
      ·rename_i hc;obtain⟨rfl,c2,c3⟩:=hc;obtain⟨ok,gl⟩:=bc o.s c3;obtain⟨n1,n2,n3⟩:=bn ok;split
       ·rename_i k ff hf;split
        ·rename_i hk;exact BL i (o.s.g.fn _ k ff hf) (o.s.room.mono hk) gl n1 (ih _) h3 h2 a b c (hfl _ h) (hfl _ c2)
        ·exact no _
       ·exact no _
      ·exact no _
     ·exact Ex i (tX n o.s _) (ih _) h3 h2 a b (rM _ _ _ _ _ _) c (hfl _ h)
    ·exact no _
   ·exact no _
  ·exact Bz ((t9 n).1 X S o _) (ih _)
mutual
def tgA (S:Sn) (i0:Nat):Nat->Expr->D->Ev->Option Ev
 |0=>λ_ _ _=>none
 |n+1=>λe=>match e with
  |.Name x _=>(match qe S x with|some i=>if i=i0 thenλ_ _=>none else eNm i|none=>λ_ _=>none)
  |.Tuple ts _ _=>if ts.all aQ then eTp ts.length (Ix S i0 n ts)elseλ_ _=>none
  |_=>λ_ _=>none
def Ix (S:Sn) (i0:Nat):Nat->List Expr->List D->Ev->Option Ev
 |0=>λ_ _ _=>none
 |n+1=>λes=>match es with
  |[]=>rB
  |t::ts=>if aQ t then gd (tgA S i0 n t) (Ix S i0 n ts)elseλ_ _=>none
end
section
variable {X:Cx} {S:Sn} {i0:Nat}
end
structure AlOk (K:Frag) (B:Bs) (O:Addr->Bool) (Y:St) (H:Hp) (U:Ev) (i:Nat) (d:D):Prop where
 E:EnvOk K B O Y H U
 no:U[i]?=some none
 al:∃v,Y[i]?=some (some v)/\Is K H d v
section
variable {K:Frag} {B:Bs} {O:Addr->Bool} {Y:St} {H H':Hp} {U:Ev} {i j:Nat} {d:D}
end
section
variable {X:Cx} {e tg iter:Expr} {pos:Pos} {i j:Nat} {x y:Str} {d:D} {ds:List D} {B:Bs} {O:Addr->Bool} {U:Ev}
end
section
variable {X:Cx} {S:Sn}
end
section
variable {X:Cx} {e2 c:Expr} {i v:Nat} {x y:Str}
end
section
variable {X:Cx} {S:Sn}
end
def cI (i:Int):Vv->Option D:=λ_=>some (.int i)
def cB (b:Bool):Vv->Option D:=λ_=>some (.bl b)
def cN:Vv->Option D:=λ_=>some .non
def cS (x:Str):Vv->Option D:=λ_=>some (.str x)
def cD (d:D):Vv->Option D:=λ_=>some d
def cT (n:String):Vv->Option D:=λ_=>some (.ty n)
def va (i:Nat):Vv->Option D:=λU=>eJ U i
def ngF (a:Vv->Option D):Vv->Option D:=λU=>(a U).bind xM
def ae:Vv->Option (List D):=λ_=>some []
def tpF (xs:Vv->Option (List D)):Vv->Option D:=λU=>(b9 (xs U)).bind λds=>some (.tup ds)
def flF (fl:Str->Str->Bool) (m:Str) (o:Vv->Option D):Vv->Option D:=λU=>(o U).bind (tH fl m)
def noP:Vv->Option (Option Int):=λ_=>some none
def lsF (L:Vv->Option (List D)):Vv->Option D:=λU=>(L U).map D.lst
def clF (f:List D->Option Sl) (xs:Vv->Option (List D)):Vv->Option D:=orO (λU=>(xs U).bind λds=>jj (f ds)) (lsF noV)
def biF (f:List D->Option D) (xs:Vv->Option (List D)):Vv->Option D:=orO (λU=>(xs U).bind f) (lsF noV)
def noD:List D->Option D:=λ_=>none
def mkF (C:Str) (g:List D->Option (List (Str×D))) (xs:Vv->Option (List D)):Vv->Option D:=orO (λU=>(xs U).bind λds=>wj C (g ds)) (lsF noV)
def meF (o:Vv->Option D) (xs:Vv->Option (List D)) (mt:MT) (k:Nat) (m:Str):Vv->Option D:=λU=>jj (x5 o xs mt k m U)
def dpF (xs:Vv->Option (List D)):Vv->Option (List D):=λU=>b9 (xs U)
def l1F (xs:Vv->Option (List D)):Vv->Option (List D):=λU=>(xs U).bind jh
def liF (xs:Vv->Option (List D)):Vv->Option D:=orO (λU=>(xs U).bind noD) (lsF (l1F xs))
def s1F (xs:Vv->Option (List D)):Vv->Option (List D):=λU=>(xs U).bind kX
def lrF (xs:Vv->Option (List D)):Vv->Option (List D):=λU=>(xs U).bind lrD
def enF (xs:Vv->Option (List D)):Vv->Option (List D):=λU=>(xs U).bind ye
def liG (xs:Vv->Option (List D)) (L:Vv->Option (List D)):Vv->Option D:=orO (λU=>(xs U).bind noD) (lsF L)
def trF (a:Vv->Option D):Vv->Option Bool:=λU=>(a U).bind xx
def tQ:Vv->Option Bool:=λ_=>some true
def jX (sp:Vv->Option (List D)) (R:Vv->Option D):Vv->Option (List D):=orO sp λU=>(R U).bind cA
def r1F (xs:Vv->Option (List D)):Vv->Option (List D):=λU=>(xs U).bind rc
def frX (R:Vv->Option D) (L:Vv->Option (List D)) (Sp:Vv->Option D):Vv->Option D:=orO (λU=>lfO (R U)) (orO (λU=>gE (L U)) Sp)
def evX (R:Vv->Option D) (L:Vv->Option (List D)) (Sp:Vv->Option D):Ev->Option (Sl×Ev):=orO (fN (frX R L Sp)) (orO (kR L) (orO (tu R) (xV R)))
def fLs (F:Vv->Option (List D)):Vv->Option D:=λU=>(b9 (F U)).bind λds=>some (.lst ds)
def fTp (F:Vv->Option (List D)):Vv->Option D:=λU=>(b9 (F U)).bind λds=>some (.tup ds)
def fCo (ks:List Nat) (J:Vv->Option (List D)) (tg:D->Vv->Option Vv) (t:Vv->Option Bool) (F:Vv->Option D):Vv->Option D:=λU=>(aw ks J tg t F U).bind λds=>some (.lst ds)
def fCl (f:List D->Option Sl) (xs:Vv->Option (List D)):Vv->Option D:=λU=>(xs U).bind λds=>oU (f ds)
def fNo (xs:Vv->Option (List D)):Vv->Option D:=λU=>(xs U).bind noD
def rtN (i:Nat):Ev->Option Out:=λU=>(eX U i).bind λs=>some (.rt s)
def nxE:Ev->Option Out:=λU=>some (.nx U)
def frF (J:Vv->Option (List D)) (tg:D->Ev->Option Ev) (F:Ev->Option Out):Ev->Option Out:=orO (gG J tg F) (x4 J tg F)
def frY (i:Nat) (J:Vv->Option (List D)) (tg:D->Ev->Option Ev) (F:Ev->Option Out):Ev->Option Out:=orO (gG J tg F) (orO (λU=>gG J tg F (frzS [i] U)) (x4 J tg F))
def dcN:Vv->Option D:=λ_=>some (.dct [] [])
def gN (i:Nat) (k:Vv->Option D) (g:Ev->Option (Sl×Ev)) (R:Vv->Option D):Ev->Option Out:=orO (gI i k g) (yo i k R)
def ck (K:Frag) (x:Str) (st:Stmt):Prop:=∃ (f:Addr) (oc:Value) (od an:Option Addr) (osl:Array (Option Value)) (kV doc pm cdv ct:Value),nsIn K mainGlobals x=some (some (.ref f))/\
 K.lookup f=some ⟨oc,od,.func (PySem.W.fnOf x x (cc st) (aC st) (aj st) .none kV doc pm an cdv ct),osl⟩/\PySem.W.codeIn K cdv x=true/\PySem.W.keepIn K (.ref f)=true
def nq (K:Frag) (C m qual:Str) (st:Stmt):Prop:=∃ (Ca f:Addr) (oc:Value) (od an:Option Addr) (osl:Array (Option Value)) (kV doc pm cdv ct:Value),nsIn K mainGlobals C=some (some (.ref Ca))/\findIn K (.ref Ca) m=some (some (.ref f))/\PySem.W.isFn K (.ref f)=true/\
 K.lookup f=some ⟨oc,od,.func (PySem.W.fnOf m qual (cc st) (aC st) (aj st) .none kV doc pm an cdv ct),osl⟩/\PySem.W.codeIn K cdv qual=true/\PySem.W.keepIn K (.ref f)=true
structure TCls (K:Frag) (C:Str):Prop where
 ex:∃Ca:Addr,nsIn K mainGlobals C=some (some (.ref Ca))/\Cls K Ca/\PySem.W.makesIn K Ca=true/\PySem.W.keepIn K (.ref Ca)=true
section
variable {P:Program} {w:World} {K:Frag} {mg:Str->Option Value} {base:Heap}
abbrev lA (N:List Str) (st:Stmt) (k:Nat) (G:Gb):Sn:=⟨N,(aj st).names,k,G⟩
theorem nr {G:Gb} (g:GbOk P w K mg base G) {N ps:List Str} {st:Stmt} {k:Nat} {qual:Str} {f:Addr} (S:FnScope N ps (aj st)) (cdv:Value) (A:Around) (outer:List Env) (s:Shared) (H:Hp) (E:XK) (hr:Room k (A.deeper (envOfC qual (aj st) s.heap.objs.size f cdv))):
  TnOk (gq CX0 P w K mg base N qual (aj st) f cdv A outer s H E).nox (lA N st k G) where
 s:=⟨g,rfl,S.nd,rfl,hr,λ_ h=>h,λ_ h=>h,λ_ h=>.inr h,λ_ h=>h⟩
 fn:=λ_=>rfl
 nox:=rfl
 nm:=rfl
def dfn (n k:Nat) (N ps:List Str) (st:Stmt) (G:Gb):List D->Option Sl:=aO ps.length N.length (exs n (lA N st k G) (aC st))
def bF (x:Str) (st:Stmt) (ps:List Str):Prop:=∀ (qual:Str) (kV doc pm:Value) (an:Option Addr) (cdv ct:Value) (us:List Value),us.length=ps.length->bindArgs (PySem.W.fnOf x qual (cc st) (aC st) (aj st) .none kV doc pm an cdv ct) ⟨us,[]⟩=pure (ps.zip us)
theorem Iy (g:GbOk P w K mg base G) (KX:K.In h) (hN:h.Ns mainGlobals mg) {st} (n k:Nat) (S:FnScope N ps (aj st)) (b:bF x st ps) (t:ck K x st):Df P w K mg base x (k+1) (dfn n k N ps st G):=by
 obtain⟨f,oc,od,an,osl,kV,doc,pm,cdv,ct,h1,h2,h3,h4⟩:=t;have Fn:=iS (st:=st) h2 h3 h4;refine⟨f,_,ps,PySem.W.mg_of KX hN h1,h4,Fn.binds λkV doc pm an cdv ct us hl=>b x kV doc pm an cdv ct us hl,Bt Fn S λcdv A outer s H E hr=>?_⟩;exact(t9 n).2 _ _ (nr g S cdv A outer s H E hr) _
theorem Dg (g:GbOk P w K mg base G) {st} (n k:Nat) (S:FnScope N ps (aj st)) (b:bF m st ps) (c:TCls K C) (t:nq K C m qual st):Mf P w K mg base C m (k+1) (dfn n k N ps st G):=by
 obtain⟨Ca,f,oc,od,an,osl,kV,doc,pm,cdv,ct,h0,hf,hi,h2,h3,h4⟩:=t;obtain⟨Cb,e0,cl,_,_⟩:=c.ex;rw[h0]at e0;cases e0;have Fn:=iS (st:=st) h2 h3 h4;refine⟨Ca,f,_,ps,h0,cl,⟨hf,hi,h4⟩,Fn.binds λkV doc pm an cdv ct us hl=>b qual kV doc pm an cdv ct us hl,Bt Fn S λcdv A outer s H E hr=>?_⟩;exact(t9 n).2 _ _ (nr g S cdv A outer s H E hr) _
theorem Dh (g:GbOk P w K mg base G) (KX:K.In h) (hN:h.Ns mainGlobals mg) {st} (n k:Nat) (fl:Str->Bool) (S:FnScope N ps (aj st)) (b:bF "__init__" st ps) (c:TCls K C) (t:nq K C "__init__" qual st) (hfl:∀f,fl f=true->∀Ca,nsIn K mainGlobals C=some (some (.ref Ca))->NoAttr K Ca f) (hg:∀ds r,gg ds=some r->∀y,rD ps.length N.length (λy=>inx n (lA N st k G) y fl (aC st)) y ds=some r):Mkf P w K mg base C (k+1) gg:=by
 obtain⟨Ca,f,oc,od,an,osl,kV,doc,pm,cdv,ct,h0,hf,hi,h2,h3,h4⟩:=t;obtain⟨Cb,e0,cl,mk,kp⟩:=c.ex;rw[h0]at e0;cases e0;have Fn:=iS (st:=st) h2 h3 h4;refine⟨Ca,f,_,ps,PySem.W.mg_of KX hN h0,h0,⟨mk,hf,hi,kp⟩,Fn.binds λkV doc pm an cdv ct us hl=>b qual kV doc pm an cdv ct us hl,Kx (I:=λy=>inx n (lA N st k G) y fl (aC st)) Fn S hg λy cdv A outer s H E hr=>?_⟩;exact Iw (nr g S cdv A outer s H E hr) cl (λf q=>hfl f q Ca h0) n _
end
def spL (K:Frag):Sp:=λvs H Q _=>∃ (a:Addr) (ns:List Int),vs=[.ref a]/\SqL K H a (ns.map V.int)/\ns.length<=63/\∀H',Q (.bl true) H'
theorem vh {K}:∀ (ns:List Int),IsL K H (ns.map D.int) (ns.map V.int)
 |[]=>rfl
 |n::ns=>⟨_,_,rfl,rfl,vh ns⟩
theorem EW {K} (F:FnOk P w K mg base CX0 k a fd ps (spC K f)) (hf:∀ns:List Int,ns.length<=63->jj (f [.lst (ns.map D.int)])=some (.bl true)):
  FnOk P w K mg base CX0 k a fd ps (spL K):=F.imp λvs H Q E ⟨b,ns,e,h,hl,q⟩=>by
 obtain⟨⟨c,d⟩,e1,e2⟩:=bind_some (hf ns hl)
 cases e2
 refine⟨noO,[.lst (ns.map D.int)],_,λ_ h=>(nomatch h),?_,e1,λv H' r=>?_⟩
 ·rw[e,dL];exact⟨_,[],rfl,⟨b,_,rfl,h,vh ns⟩,rfl⟩
 ·obtain⟨O',A,_,_,_,_,_,h6⟩:=r;have hv:v=.bl true:=by
   cases c with
   |sh=>exact h6.2
   |top=>obtain⟨_,_,_,z,_⟩:=h6;cases z
   |deep=>exact h6.1
  rw[hv];exact q H'
theorem walkL {l:PySem.W.OpenLaw} {K:Params->Frag} (hn:l.most=some 63) (hdf:d.params.defaults=[]) (hr:Room k callerA) (hY:∀ (w:World) (h:Heap),YP w h->(K w.params).In h) (hT:∀ (w:World) (h:Heap),YP w h->pM (K w.params) h) (F:∀ (w:World) (mg:Str->Option Value) (fa:Addr) (h:Heap),(K w.params).In h->h.Ns mainGlobals mg->mg d.name=some (.ref fa)->
   ∃fd:FuncData,(∀ (s:Shared) (u:Value),BindsTo s fd ⟨[u],[]⟩ [("script",u)])/\∀base:Heap,(K w.params).In base->base.Ns mainGlobals mg->FnOk l.prog w (K w.params) mg base CX0 k fa fd ["script"] (spL (K w.params))):
  PySem.W.WalkO q loose XP YP l.row.toRowW d [] (λf vs=>PySem.call f vs):=
 L2.walk_of (n:=63) (k:=k) (x:="script") (CX:=λ_=>CX0) (sp:=λw=>spL (K w.params)) hn (by decide) hdf hr hY hT F (λ_ _ a ns hl hS=>⟨a,ns,rfl,hS,hl,λ_=>rfl⟩) λ_ _ _ _ _ z=>z
def addF (G:Gb) (x:Str) (k:Nat) (f:List D->Option Sl):Gb:={G with fn:=λy=>if y=x then some (k,f)else G.fn y}
def addM (G:Gb) (m C:Str) (k:Nat) (f:List D->Option Sl):Gb:={G with mt:=λa b=>if a=m/\b=C then some (k,f)else G.mt a b}
def addI (G:Gb) (C:Str) (k:Nat) (g:List D->Option (List (Str×D))):Gb:={G with ini:=λy=>if y=C then some (k,g)else G.ini y}
section
variable {P:Program} {w:World} {K:Frag} {mg:Str->Option Value} {base:Heap} {G:Gb}
theorem GbOk.addF (g:GbOk P w K mg base G) (d:Df P w K mg base x k f):GbOk P w K mg base (addF G x k f):=⟨λy j h e=>by
 have e':(if y=x then some (k,f)else G.fn y)=some (j,h):=e;split at e'
 ·rename_i z;cases e';rw[z];exact d
 ·exact g.fn y j h e',g.cn,g.no,g.fl,g.mt,g.ini⟩
theorem GbOk.addM (g:GbOk P w K mg base G) (d:Mf P w K mg base C m k f):GbOk P w K mg base (addM G m C k f):=⟨g.fn,g.cn,g.no,g.fl,λa b j h e=>by
 have e':(if a=m/\b=C then some (k,f)else G.mt a b)=some (j,h):=e;split at e'
 ·rename_i z;cases e';rw[z.1,z.2];exact d
 ·exact g.mt a b j h e',g.ini⟩
theorem GbOk.addI (g:GbOk P w K mg base G) (d:Mkf P w K mg base C k gg):GbOk P w K mg base (addI G C k gg):=⟨g.fn,g.cn,g.no,g.fl,g.mt,λy j h e=>by
 have e':(if y=C then some (k,gg)else G.ini y)=some (j,h):=e;split at e'
 ·rename_i z;cases e';rw[z];exact d
 ·exact g.ini y j h e'⟩
end
theorem ax {R L Sp} (h:R (vw U)=some d) (f:lfD d=true):evX R L Sp U=some ((.deep,d),U):=by
 unfold evX orO fN frX orO lfO;simp[h,f]
theorem evX_lfs {R L Sp} (h:R (vw U)=some d) (f:lfD d=false) (hl:L (vw U)=some ds) (fl:lfL ds=true):evX R L Sp U=some ((.deep,.lst ds),U):=by
 unfold evX orO fN frX orO lfO gE;simp[h,hl,f,fl]
theorem jn {R L Sp} (h:R (vw U)=some d) (f:lfD d=false) (hl:L (vw U)=none) (hs:Sp (vw U)=some e):evX R L Sp U=some ((.deep,e),U):=by
 unfold evX orO fN frX orO lfO gE;simp[h,hl,f,hs]
theorem ub {R L Sp} (h:R (vw U)=some d) (f:lfD d=false) (hl:L (vw U)=none) (hs:Sp (vw U)=none) (hl2:L (shv U)=none) (h2:R (shv U)=some d):evX R L Sp U=some ((.sh,d),U):=by
 unfold evX orO fN kR tu frX orO lfO gE;simp[h,hl,hl2,h2,f,hs]
theorem av (h:F U=some (.nx U')):ah F G U=G U':=by unfold ah;rw[h];rfl
theorem dM (h:F U=some (.rt s)):ah F G U=some (.rt s):=by unfold ah;rw[h];rfl
theorem cx (h:g U=some (s,U')):aN i g U=some (.nx (U'.set i (some s))):=by unfold aN;rw[h];rfl
theorem jo (h:g U=some (s,U')):cw g U=some (.rt s):=by unfold cw;rw[h];rfl
theorem nt (h:c (vw U)=some true):ifS c F G U=F U:=by unfold ifS;rw[h];rfl
theorem iI (h:c (vw U)=some false):ifS c F G U=G U:=by unfold ifS;rw[h];rfl
theorem fw {step}:∀ (ds:List D) (I:Nat->Ev->Prop) (U:Ev),I 0 U->(∀ (i:Nat) (d:D) (U:Ev),ds[i]?=some d->I i U->∃U',step d U=some (.nx U')/\I (i+1) U')->∃U',mR step ds U=some (.nx U')/\I ds.length U'
 |[],I,U,h0,_=>⟨U,rfl,h0⟩
 |d::ds,I,U,h0,hs=>by
  obtain⟨U1,e1,i1⟩:=hs 0 d U rfl h0;obtain⟨U2,e2,i2⟩:=fw ds (λi=>I (i+1)) U1 i1 λi d' U' h hi=>hs (i+1) d' U' (by simpa using h) hi;refine⟨U2,?_,i2⟩;unfold mR;rw[e1];exact e2
theorem mh (I:Nat->Ev->Prop) (hJ:J (shv U)=some ds) (h0:I 0 U) (hs:∀ (i:Nat) (d:D) (U:Ev),ds[i]?=some d->I i U->∃U',(tg d U).bind F=some (.nx U')/\I (i+1) U'):
  ∃U',frF J tg F U=some (.nx U')/\I ds.length U':=by
 obtain⟨U',e,i⟩:=fw (step:=lu tg F) ds I U h0 hs
 refine⟨U',?_,i⟩
 unfold frF orO gG
 rw[hJ]
 simp only[Option.bind_some]
 rw[e]
section
variable {U:Vv} {a b c:Vv->Option D} {xs:Vv->Option (List D)} {i:Int} {n:Nat}
@[simp] theorem fR:cI i U=some (.int i):=rfl
@[simp] theorem LY {b}:cB b U=some (.bl b):=rfl
@[simp] theorem LZ:cN U=some .non:=rfl
@[simp] theorem KR:cS x U=some (.str x):=rfl
@[simp] theorem L4:cD d U=some d:=rfl
@[simp] theorem Iz {n}:cT n U=some (.ty n):=rfl
@[simp] theorem LK:(noV U:Option α)=none:=rfl
@[simp] theorem aH:va n U=eJ U n:=rfl
@[simp] theorem ao {r:Vv}:eJ (d::r) 0=d:=by cases d<;>rfl
@[simp] theorem ar {r:Vv}:eJ (d::r) (n+1)=eJ r n:=by unfold eJ;simp
@[simp] theorem EY {r:Vv}:eJ (d::e::r) 1=e:=by cases e<;>rfl
@[simp] theorem bj:af g a b U=(a U).bind λx=>(b U).bind λy=>g x y:=rfl
@[simp] theorem IA:ngF a U=(a U).bind xM:=rfl
@[simp] theorem aq:ae U=some []:=rfl
@[simp] theorem ai:aa a xs U=(a U).bind λd=>(xs U).bind λr=>some (d::r):=rfl
@[simp] theorem iJ:tpF xs U=(b9 (xs U)).bind λds=>some (.tup ds):=rfl
@[simp] theorem IB:flF fl m a U=(a U).bind (tH fl m):=rfl
@[simp] theorem LL:noP U=some none:=rfl
@[simp] theorem JP:xP a U=(a U).bind λd=>(ra d).bind λi=>some (some i):=rfl
@[simp] theorem dF:lsF L U=(L U).map D.lst:=rfl
theorem nu {f g:α->Option β} (h:g x=none):orO f g x=f x:=by
 unfold orO;cases f x<;>simp[h]
@[simp] theorem cK:clF f xs U=(xs U).bind λds=>jj (f ds):=nu rfl
@[simp] theorem fz:biF f xs U=(xs U).bind f:=nu rfl
@[simp] theorem zd:mkF C g xs U=(xs U).bind λds=>wj C (g ds):=nu rfl
@[simp] theorem IC {mt k m}:meF a xs mt k m U=jj ((a U).bind λd=>(xs U).bind λas=>kU mt k m d as):=rfl
@[simp] theorem iK:dpF xs U=b9 (xs U):=rfl
@[simp] theorem ze:l1F xs U=(xs U).bind jh:=rfl
@[simp] theorem jp:liF xs U=((xs U).bind jh).map D.lst:=by
 unfold liF orO;have:((xs U).bind noD)=none:=by cases xs U<;>rfl
 simp[this]
@[simp] theorem pi:trF a U=(a U).bind xx:=rfl
@[simp] theorem lB:tQ U=some true:=rfl
@[simp] theorem Di:fCl f xs U=(xs U).bind λds=>oU (f ds):=rfl
@[simp] theorem Dj:fNo xs U=none:=by unfold fNo noD;cases xs U<;>rfl
@[simp] theorem Dk:fLs F U=(b9 (F U)).bind λds=>some (.lst ds):=rfl
@[simp] theorem zf:fTp F U=(b9 (F U)).bind λds=>some (.tup ds):=rfl
@[simp] theorem jX_none:jX noV R U=(R U).bind cA:=rfl
theorem pj (h:(xs U).bind rc=some ds):jX (r1F xs) R U=some ds:=by
 unfold jX orO r1F;simp[h]
@[simp] theorem KS:nZ a b U=(a U).bind λx=>x.asB.bind λc=>if c=true then b U else some (.bl false):=rfl
@[simp] theorem LM:orF a b U=(a U).bind λx=>x.asB.bind λc=>if c=true then some (.bl true)else b U:=rfl
@[simp] theorem KU:xv a U=(a U).bind λx=>x.asB.bind λc=>some (.bl (!c)):=rfl
@[simp] theorem KW:xw p q U=(p U).bind λc=>if c=true then q U else some false:=rfl
@[simp] theorem vi:orQ p q U=(p U).bind λc=>if c=true then some true else q U:=rfl
@[simp] theorem jZ:dY p U=(p U).map (!·):=rfl
@[simp] theorem zg:ifF p a b U=(p U).bind λc=>if c=true then a U else b U:=rfl
@[simp] theorem dN:au a U=(a U).bind D.asB:=rfl
@[simp] theorem ID:fL g g' a b c U=(a U).bind λx=>(b U).bind λy=>(g x y).bind λz=>z.asB.bind λk=>if k=true then(c U).bind λw=>g' y w else some (.bl false):=rfl
end
@[simp] theorem gO (b:Bool):D.asB (.bl b)=some b:=rfl
@[simp] theorem aR (s:Sl):jj (some s)=some s.2:=rfl
@[simp] theorem EZ (d:D):oU (some (.deep,d))=some d:=rfl
@[simp] theorem jq (i j:Int):bb (.int i) (.int j)=some (.int (i+j)):=rfl
@[simp] theorem vj (i j:Int):lm (.int i) (.int j)=some (.int (i-j)):=rfl
@[simp] theorem E8 (i j:Int):ltD (.int i) (.int j)=some (.bl (decide (i<j))):=rfl
@[simp] theorem KY (i j:Int):leD (.int i) (.int j)=some (.bl (decide (i<=j))):=rfl
@[simp] theorem uc (i j:Int):gtD (.int i) (.int j)=some (.bl (decide (j<i))):=rfl
@[simp] theorem KZ (i j:Int):geD (.int i) (.int j)=some (.bl (decide (j<=i))):=rfl
@[simp] theorem E9 (i:Int):xM (.int i)=some (.int (-i)):=rfl
@[simp] theorem Fa (i:Int):ra (.int i)=some i:=rfl
@[simp] theorem K0 (ds:List D):cA (.lst ds)=some ds:=rfl
@[simp] theorem K1 (ds:List D):cA (.tup ds)=some ds:=rfl
@[simp] theorem nw (d:D):aS [d]=(match cA d with|some ds=>some (.int ds.length)|none=>Hz d):=rfl
@[simp] theorem JQ (d:D):jh [d]=cA d:=rfl
@[simp] theorem IE (d:D):jQ [d]=(cA d).bind λds=>some (.tup ds):=rfl
@[simp] theorem Fb (i j:Int):lz [.int i,.int j]=some (.int (if j>i then j else i)):=rfl
@[simp] theorem K2 (i j:Int):Ku [.int i,.int j]=some (.int (if j<i then j else i)):=rfl
@[simp] theorem iw (b:Bool):xx (.bl b)=some b:=rfl
theorem vk (h:CMul i j):cW (.int i) (.int j)=some (.int (i*j)):=by unfold cW;simp[h]
theorem Fc (h:-18446744073709551616<i) (h2:i<18446744073709551616):cW (.int i) (.int j)=some (.int (i*j)):=vk (.inl ⟨by omega,by omega⟩)
theorem zh (h:-18446744073709551616<j) (h2:j<18446744073709551616):cW (.int i) (.int j)=some (.int (i*j)):=vk (.inr ⟨by omega,by omega⟩)
theorem rT (h:0<j) (h2:j.natAbs.log2<9000):dJ (.int i) (.int j)=some (.int (i/j)):=by unfold dJ;exact if_pos ⟨h,h2⟩
theorem iz (h:0<j) (h2:j<1073741824):dJ (.int i) (.int j)=some (.int (i/j)):=rT h (Nat.lt_trans ((Nat.log2_lt (by omega)).mpr (show j.natAbs<2^30 by omega)) (by decide))
theorem ez (h:0<j):aM (.int i) (.int j)=some (.int (i%j)):=by unfold aM;simp[h]
@[simp] theorem JR (i:Int):lfD (.int i)=true:=rfl
@[simp] theorem K3 (b:Bool):lfD (.bl b)=true:=rfl
@[simp] theorem JS (x:Str):lfD (.str x)=true:=rfl
@[simp] theorem JT:lfD .non=true:=rfl
@[simp] theorem BU (ds:List D):lfD (.lst ds)=false:=rfl
@[simp] theorem JU (ds:List D):lfD (.tup ds)=lfL ds:=rfl
@[simp] theorem JV:lfL []=true:=rfl
@[simp] theorem zi (d:D) (ds:List D):lfL (d::ds)=(lfD d&&lfL ds):=rfl
theorem eA:∀ {ds:List D},(∀d∈ds,lfD d=true)->lfL ds=true
 |[],_=>rfl
 |d::ds,h=>by simp[h d mem_cons_self,eA λe he=>h e (mem_cons_of_mem _ he)]
@[simp] theorem Gv:b9 none=none:=rfl
theorem dc (h:ds.length<big):b9 (some ds)=some ds:=by unfold b9;simp[h]
@[simp] theorem Fd:b9 (some [])=some []:=dc (by decide)
@[simp] theorem iY (a:D):b9 (some [a])=some [a]:=dc (show 1<big by decide)
@[simp] theorem cY (a b:D):b9 (some [a,b])=some [a,b]:=dc (show 2<big by decide)
@[simp] theorem K4 (a b c d e:D):b9 (some [a,b,c,d,e])=some [a,b,c,d,e]:=dc (show 5<big by decide)
@[simp] theorem K5 (a b c d e f g h:D):b9 (some [a,b,c,d,e,f,g,h])=some [a,b,c,d,e,f,g,h]:=dc (show 8<big by decide)
@[simp] theorem Dl (d c:D):gB [d,c]=(cC d).bind λT=>(mM c).bind λns=>some (.bl (ns.any (isI T))):=rfl
@[simp] theorem JW:mM (.ty "int")=some ["int"]:=by rfl
@[simp] theorem IF:mM (.ty "bool")=some ["bool"]:=by rfl
@[simp] theorem JY:mM (.ty "str")=some ["str"]:=by rfl
@[simp] theorem IG:mM (.ty "list")=some ["list"]:=by rfl
@[simp] theorem Gw:mM (.ty "tuple")=some ["tuple"]:=by rfl
@[simp] theorem zj:mM (.tup [.ty "list",.ty "tuple"])=some ["list","tuple"]:=by rfl
@[simp] theorem K6 (i:Int):cC (.int i)=some "int":=rfl
@[simp] theorem LN (i:Bool):cC (.bl i)=some "bool":=rfl
@[simp] theorem K7 (i:Str):cC (.str i)=some "str":=rfl
@[simp] theorem K8 (i:List D):cC (.tup i)=some "tuple":=rfl
@[simp] theorem K9 (i:List D):cC (.lst i)=some "list":=rfl
@[simp] theorem La:isI "int" "int"=true:=by decide
@[simp] theorem Lb:isI "int" "bool"=false:=by decide
@[simp] theorem Lc:isI "bool" "bool"=true:=by decide
@[simp] theorem Ld:isI "bool" "int"=true:=by decide
@[simp] theorem Le:isI "tuple" "list"=false:=by decide
@[simp] theorem Lf:isI "tuple" "tuple"=true:=by decide
@[simp] theorem zk:isI "list" "list"=true:=by decide
@[simp] theorem Lg:isI "list" "tuple"=false:=by decide
@[simp] theorem Lh:isI "str" "str"=true:=by decide
@[simp] theorem pv (neg:Bool) (i j:Int):bi neg (.int i) (.int j)=some (.bl (if neg then !decide (i=j)else decide (i=j))):=by
 unfold bi kQ;have:(aZ (.int i)&&aZ (.int j)&&qO (toV (.int i)) (toV (.int j)))=true:=rfl;rw[if_pos this];have:decide (toV (.int i)=toV (.int j))=decide (i=j):=by
  show decide (V.int i=V.int j)=_;by_cases h:i=j<;>simp[h]
 rw[this];rfl
@[simp] theorem LO (neg:Bool) (i j:Str):bi neg (.str i) (.str j)=some (.bl (if neg then !decide (i=j)else decide (i=j))):=by
 unfold bi kQ;have:(aZ (.str i)&&aZ (.str j)&&qO (toV (.str i)) (toV (.str j)))=true:=rfl;rw[if_pos this];have:decide (toV (.str i)=toV (.str j))=decide (i=j):=by
  show decide (V.str i=V.str j)=_;by_cases h:i=j<;>simp[h]
 rw[this];rfl
@[simp] theorem LP (neg:Bool) (i j:Bool):bi neg (.bl i) (.bl j)=some (.bl (if neg then !decide (i=j)else decide (i=j))):=by
 unfold bi kQ;have:(aZ (.bl i)&&aZ (.bl j)&&qO (toV (.bl i)) (toV (.bl j)))=true:=rfl;rw[if_pos this];have:decide (toV (.bl i)=toV (.bl j))=decide (i=j):=by
  show decide (V.bl i=V.bl j)=_;by_cases h:i=j<;>simp[h]
 rw[this];rfl
@[simp] theorem L5 (ds:List D) (i:Int):ixD (.lst ds) (.int i)=atI ds i:=rfl
@[simp] theorem L6 (ds:List D) (i:Int):ixD (.tup ds) (.int i)=atI ds i:=rfl
theorem qg {d:D} (h:0<=i) (h2:ds[i.toNat]?=some d):atI ds i=some d:=by
 have hl:=(List.getElem?_eq_some_iff.mp h2).1;unfold atI ixN;rw[if_pos h,if_pos (by omega)];exact h2
@[simp] theorem LQ (d:D) (ds:List D):atI (d::ds) 0=some d:=qg (by omega) rfl
@[simp] theorem LR (c d:D) (ds:List D):atI (c::d::ds) 1=some d:=qg (by omega) rfl
@[simp] theorem aB:vw []=[]:=rfl
@[simp] theorem aG (s:Sl) (U:Ev):vw (some s::U)=some s.2::vw U:=rfl
@[simp] theorem aL (U:Ev):vw (none::U)=none::vw U:=rfl
@[simp] theorem JZ:shv []=[]:=rfl
@[simp] theorem Li (d:D) (U:Ev):shv (some (.sh,d)::U)=some d::shv U:=rfl
@[simp] theorem IH (U:Ev):shv (none::U)=none::shv U:=rfl
@[simp] theorem II (d:D) (U:Ev):shv (some (.deep,d)::U)=(if lfD d=true then some d else none)::shv U:=rfl
@[simp] theorem J0 (d:D) (U:Ev):shv (some (.top,d)::U)=(if lfD d=true then some d else none)::shv U:=rfl
@[simp] theorem bv (Y:List (Option α)):dI [] Y=Y:=rfl
@[simp] theorem bg (k:Nat) (ks:List Nat) (Y:List (Option α)):dI (k::ks) Y=dI ks (Y.set k none):=rfl
@[simp] theorem eB (i:Nat) (d:D) (U:Vv):gNm i d U=some (U.set i (some d)):=rfl
@[simp] theorem vl (n:Nat) (gs) (ds:List D) (U:Vv):gTp n gs (.tup ds) U=if ds.length=n then gs ds U else none:=rfl
@[simp] theorem jr (g gs) (d:D) (ds:List D) (U:Vv):bq g gs (d::ds) U=(g d U).bind λU1=>gs ds U1:=rfl
@[simp] theorem mi (U:Vv):eV [] U=some U:=rfl
@[simp] theorem LS (i:Nat) (d:D) (U:Ev):eNm i d U=some (U.set i (some (.sh,d))):=rfl
@[simp] theorem LU (n:Nat) (gs) (ds:List D) (U:Ev):eTp n gs (.tup ds) U=if ds.length=n then gs ds U else none:=rfl
@[simp] theorem J2 (g gs) (d:D) (ds:List D) (U:Ev):gd g gs (d::ds) U=(g d U).bind λU1=>gs ds U1:=rfl
@[simp] theorem Lj (U:Ev):rB [] U=some U:=rfl
@[simp] theorem bZ (g ft fe) (U:Vv) (d:D):gb g ft fe U d=(g d U).bind λU1=>(ft U1).bind λc=>if c=true then(fe U1).bind λy=>some (some y)else some none:=rfl
theorem aP (hl:ds.length=n) (h:F (az m ds)=some (.rt s)):aO n m F ds=some s:=by
 unfold aO;rw[if_pos hl,h];rfl
theorem zm (hl:ds.length=n) (h:F (az m ds)=some (.nx U)):aO n m F ds=some (.deep,.non):=by
 unfold aO;rw[if_pos hl,h];rfl
@[simp] theorem LV (U:Ev):nxE U=some (.nx U):=rfl
theorem ny {β:Type} {step} {mk out}:∀ (xs:List β),(∀x∈xs,step (mk x)=some (some (out x)))->kP step (xs.map mk)=some (xs.map out)
 |[],_=>rfl
 |x::xs,h=>by
  rw[List.map_cons];unfold kP;rw[h x mem_cons_self,ny xs λe he=>h e (mem_cons_of_mem _ he)];rfl
theorem aU {β:Type} {U:Vv} {xs:List β} {mk out} (hJ:J U=some (xs.map mk)) (h:∀x∈xs,gb g ft fe (dI ks U) (mk x)=some (some (out x))) (hl:xs.length<big):aw ks J g ft fe U=some (xs.map out):=by
 unfold aw;rw[hJ];simp only[Option.bind_some];rw[ny xs h];unfold b9;simp[hl]
theorem iL {β:Type} {step} {mk out} {p:β->Bool}:∀ (xs:List β),(∀x∈xs,step (mk x)=some (if p x then some (out x)else none))->kP step (xs.map mk)=some ((xs.filter p).map out)
 |[],_=>rfl
 |x::xs,h=>by
  rw[List.map_cons];unfold kP;rw[h x mem_cons_self,iL xs λe he=>h e (mem_cons_of_mem _ he)];cases hp:p x<;>simp[hp]
theorem iM {β:Type} {U:Vv} {xs:List β} {mk out} {p:β->Bool} (hJ:J U=some (xs.map mk)) (h:∀x∈xs,gb g ft fe (dI ks U) (mk x)=some (if p x then some (out x)else none)) (hl:xs.length<big):aw ks J g ft fe U=some ((xs.filter p).map out):=by
 unfold aw;rw[hJ];simp only[Option.bind_some];rw[iL xs h];unfold b9;have:((xs.filter p).map out).length<big:=by
  rw[length_map];exact lt_of_le_of_lt (List.length_filter_le _ _) hl
 simp only[Option.bind_some];rw[if_pos this]
theorem rV:∀bs:List Bool,xA (bs.map D.bl)=some bs
 |[]=>rfl
 |b::bs=>by
  rw[List.map_cons];unfold xA;rw[rV bs];rfl
theorem nz {β:Type} (xs:List β) (p:β->Bool):n4 [.lst (xs.map λx=>.bl (p x))]=some (.bl (xs.all p)):=by
 have e:xs.map (λx=>D.bl (p x))=(xs.map p).map D.bl:=by rw[List.map_map];rfl
 rw[e];unfold n4 un1;simp only[qZ,Option.bind_some];rw[rV];simp[List.all_map];rfl
theorem IJ:(2:Int)^62=4611686018427387904:=by decide+kernel
theorem Fe (h:-1000000<j) (h2:j<1000000):inR j:=by
 unfold inR;rw[IJ];exact⟨by omega,by omega⟩
theorem BV (hj:inR j):rc [.int j]=some (lq 0 j.toNat):=by
 unfold rc un1;simp only[Fa,Option.bind_some];rw[if_pos hj]
theorem vm {n:Nat} (h:n<1000000):inR (n:Int):=Fe (by omega) (by omega)
theorem zn:lq 0 n=(List.range n).map λ(i:Nat)=>D.int (i:Int):=by
 unfold lq;apply List.map_congr_left;intro i _;rw[Int.zero_add]
theorem fA {n:Nat} (h:n<1000000):rc [.int (n:Int)]=some ((List.range n).map λ(i:Nat)=>D.int (i:Int)):=by
 rw[BV (vm h),Int.toNat_natCast,zn]
theorem BW {β:Type} {xs:List β} {mk:β->D} {i:Int} (h:0<=i) (h2:i<xs.length):atI (xs.map mk) i=some (mk (xs[i.toNat]'(by omega))):=qg h (by
 have:i.toNat<xs.length:=by omega
 simp[this])
theorem rW {β:Type} {xs:List β} {mk:β->D} {i:Nat} {x} (h:xs[i]?=some x):atI (xs.map mk) (i:Int)=some (mk x):=by
 have hl:=(List.getElem?_eq_some_iff.mp h).1;exact qg (by omega) (by simp[h])
theorem j0 (h0:em U i=some (c0,ds0)) (h:g U=some ((.deep,d),U')) (ho:em U' i=some (.deep,ds)) (hl:ds.length+1<big):iB i g U=some (.nx (U'.set i (some (.deep,.lst (ds++[d]))))):=by
 unfold iB;rw[h0];simp only[Option.bind_some,h,ho];rw[if_pos hl];rfl
theorem ww (h0:em U i=some (c0,ds0)) (h:g U=some ((.deep,d),U')) (ho:em U' i=some (.deep,ds)) (hl:ds.length+1<big):y7 i k g R U=some (.nx (U'.set i (some (.deep,.lst (ds++[d]))))):=by
 unfold y7 orO;rw[j0 h0 h ho hl]
theorem kZ {k:Int} (h:g U=some ((.deep,d),U')) (ho:em U' i=some (.deep,ds)) (hk:fk (vw U')=some (.int k)) (h0:0<=k) (hl:k<ds.length):gI i fk g U=some (.nx (U'.set i (some (.deep,.lst (ds.set k.toNat d))))):=by
 unfold gI;rw[h];simp only[Option.bind_some,ho,hk];have:ixN ds.length k=some k.toNat:=by unfold ixN;rw[if_pos h0,if_pos hl]
 rw[this];rfl
def gP:Ev->Option Out:=(ah (cw (evX (nZ (biF gB (aa (va 0) (aa (cT "int") ae))) (nZ (xv (biF gB (aa (va 0) (aa (cT "bool") ae)))) (fL leD leD (va 1) (va 0) (va 2)))) noV noV)) nxE)
def nB:Ev->Option Out:=(ah (aN 1 (evX (cI 1) noV noV)) (ah (frF (jX noV (va 0)) (eNm 2) (ah (aN 1 (evX (af cW (va 1) (biF aS (aa (va 2) ae))) noV noV)) nxE)) (ah (rtN 1) nxE)))
def fS (c5:List D->Option Sl) (iA:List D->Option Sl):Ev->Option Out:=(ah (ifS (orQ (dY (trF (biF gB (aa (va 0) (aa (tpF (aa (cT "list") (aa (cT "tuple") ae))) ae))))) (au (af gtD (biF aS (aa (va 0) ae)) (cD (.int 6))))) (ah (cw (evX (cB false) noV noV)) nxE) nxE) (ah (cw (evX (nZ (biF n4 (aa (lsF (aw [1] (jX noV (va 0)) (gNm 1) tQ (clF iA (aa (va 1) ae)))) ae)) (af leD (clF c5 (aa (va 0) ae)) (cD (.int 1000)))) noV noV)) nxE))
def j2 (bx:List D->Option Sl) (y:Addr):InF:=(stI (ifS (dY (trF (clF bx (aa (va 1) ae)))) (ah noO' nxE) nxE) (rC y 0 "passes" (evX (biF jQ (aa (lsF (aw [2] (jX noV (va 1)) (gNm 2) tQ (biF jQ (aa (va 2) ae)))) ae)) noV (fNo (aa (lsF (aw [2] (jX noV (va 1)) (gNm 2) tQ (biF jQ (aa (va 2) ae)))) ae))) By))
def eC (fl:Str->Str->Bool):Ev->Option Out:=(ah (cw (evX (biF aS (aa (flF fl "passes" (va 0)) ae)) noV (fNo (aa (flF fl "passes" (va 0)) ae)))) nxE)
def j3 (mt_many:MT) (kk:Nat) (aI:List D->Option Sl):Ev->Option Out:=(ah (cw (evX (clF aI (aa (va 1) (aa (cI 0) (aa (meF (va 0) ae mt_many kk "many") ae)))) noV (fCl aI (aa (va 1) (aa (cI 0) (aa (meF (va 0) ae mt_many kk "many") ae)))))) nxE)
def j4 (aI:List D->Option Sl):Ev->Option Out:=(ah (cw (evX (clF aI (aa (va 0) (aa (cI 1) (aa (cD (.int 9)) ae)))) noV (fCl aI (aa (va 0) (aa (cI 1) (aa (cD (.int 9)) ae)))))) nxE)
abbrev Pk:=Bool×Int
def kd (q:Bool):Str:=if q then"queue"else"pile"
def pkD (p:Pk):D:=.tup [.str (kd p.1),.int p.2]
def okK (p:Pk):Bool:=decide (0<=p.2)&&decide (p.2<=9)
def sq (w:Bool) (ds:List D):D:=if w then .lst ds else .tup ds
@[simp] theorem J3 (w:Bool) (ds:List D):cA (sq w ds)=some ds:=by cases w<;>rfl
@[simp] theorem Lk (w:Bool) (ds:List D):gB [sq w ds,.tup [.ty "list",.ty "tuple"]]=some (.bl true):=by cases w<;>simp[sq]
theorem LW (p:Pk):lfD (pkD p)=true:=rfl
def tpD (ps:List Pk):D:=.tup (ps.map pkD)
def jt (f:List D->Option Sl):Prop:=∀v a b:Int,f [.int v,.int a,.int b]=some (.deep,.bl (decide (a<=v)&&decide (v<=b)))
theorem zo:jt (aO 3 3 gP):=λv a b=>by
 refine aP rfl ?_;unfold gP;refine dM (jo (ax ?_ rfl));simp[az];by_cases h:a<=v<;>simp[h]
def zp (f:List D->Option Sl):Prop:=∀v:Int,f [.int v]=some (.deep,.bl (decide (1<=v)&&decide (v<=9)))
theorem Ff (hw:jt w):zp (aO 1 1 (j4 w)):=λv=>by
 refine aP rfl ?_;unfold j4;refine dM (jo (ax ?_ rfl));simp[az,hw v 1 9]
def okP (ps:List Pk):Bool:=decide (1<=ps.length)&&decide (ps.length<=6)&&ps.all okK
def IK:List (List Pk)->Nat
 |[]=>1
 |p::r=>p.length*IK r
theorem lt_big (h:-1000000<j) (h2:j<1000000):-18446744073709551616<j/\j<18446744073709551616:=⟨Int.lt_trans (by decide) h,Int.lt_trans h2 (by decide)⟩
theorem qh (h:-1000000<j) (h2:j<1000000):cW (.int i) (.int j)=some (.int (i*j)):=zh (lt_big h h2).1 (lt_big h h2).2
structure Valid (pss:List (List Pk)):Prop where
 len:pss.length<=6
 each:∀p∈pss,okP p=true
 codes:IK pss<=1000
def vn (ps:List (List Pk)):D:=.tup (ps.map tpD)
def Dm (ps:List (List Pk)):D:=.obj "Mill" ["passes"] [vn ps]
theorem zr (hf:fl "Mill" "passes"=true) (ps:List (List Pk)):tH fl "passes" (Dm ps)=some (vn ps):=by
 show(if fl "Mill" "passes"=true then List.lookup ("passes":Str) ([("passes":Str)].zip [vn ps])else none)=_;rw[if_pos hf];rfl
theorem Fg (hf:fl "Mill" "passes"=true) (ps:List (List Pk)):aO 1 1 (eC fl) [Dm ps]=some (.deep,.int (ps.length:Nat)):=by
 refine aP rfl ?_;unfold eC;refine dM (jo (ax ?_ rfl));simp[az,zr hf,vn]
structure WordOk (ps:List (List Pk)) (t:Nat) (w:List Nat):Prop where
 len:w.length=(ps.drop t).length
 each:∀q∈w.zip (ps.drop t),q.1<q.2.length
theorem zt (h:f (vw U)=some d):mQ f U=some (.nx U):=by unfold mQ;rw[h];rfl
def Ll (q:Nat×List Pk):Pk:=q.2[q.1]?.getD (true,0)
theorem mj {v:Nat->Int} (I:Nat->Ev->Prop) (hJ:J (shv U)=some ((List.range n).map λi=>D.int (v i))) (h0:I 0 U) (hs:∀ (i:Nat) (U:Ev),i<n->I i U->∃U',F (U.set s (some (.sh,.int (v i))))=some (.nx U')/\I (i+1) U'):∃U',frF J (eNm s) F U=some (.nx U')/\I n U':=by
 obtain⟨U',e,i⟩:=mh (tg:=eNm s) (F:=F) I hJ h0 (λi d U hd hi=>by
  rw[getElem?_map]at hd;cases hp:(List.range n)[i]? with
  |none=>rw[hp]at hd;cases hd
  |some p=>
   rw[hp]at hd;cases hd;obtain⟨hl,e⟩:=List.getElem?_eq_some_iff.mp hp;rw[List.getElem_range]at e;subst e;rw[length_range]at hl;exact hs i U hl hi)
 rw[length_map,length_range]at i;exact⟨U',e,i⟩
theorem ju (o:Option Sl) (U:Ev):vw (o::U)=o.map (·.2)::vw U:=rfl
def scD (ns:List Int):D:=.lst (ns.map D.int)
@[simp] theorem seq_sc (ns:List Int):cA (scD ns)=some (ns.map D.int):=rfl
@[simp] theorem LX (ns:List Int):lfD (scD ns)=false:=rfl
theorem IL (ns:List Int):lfL (ns.map D.int)=true:=eA λd hd=>by
 obtain⟨p,_,rfl⟩:=List.mem_map.mp hd;rfl
theorem iN (h:0<=i) (h2:i<ns.length):∃v,ixD (scD ns) (.int i)=some (.int v):=⟨_,BW h h2⟩
theorem ud (h:0<=i) (h2:i<1000000000039):cW (.int i) (.int j)=some (.int (i*j)):=Fc (Int.lt_of_lt_of_le (by decide) h) (Int.lt_trans h2 (by decide))
theorem md (i:Int) (h:0<j):0<=i%j/\i%j<j:=⟨Int.emod_nonneg _ (by omega),Int.emod_lt_of_pos _ h⟩
theorem iC (i j:Int) (h:0<j):aM (.int i) (.int j)=some (.int (i%j)):=ez h
end L2
namespace L2
open PySem PySem.Spec PyProof.Rows
end L2
namespace L2
open PySem PySem.Spec PyProof.Rows
theorem Fh {K} {st} (n k:Nat) (X:K.In h) (hN:h.Ns mainGlobals mg) (hfa:mg "law"=some (.ref fa)) (S:FnScope N ["script"] (aj st)) (b:bF "law" st ["script"]) (t:ck K "law" st) (g:∀base:Heap,K.In base->base.Ns mainGlobals mg->GbOk P w K mg base G) (hf:∀ns:List Int,ns.length<=63->jj (dfn n k N ["script"] st G [.lst (ns.map D.int)])=some (.bl true)):
  ∃fd:FuncData,(∀ (s:Shared) (v:Value),BindsTo s fd ⟨[v],[]⟩ [("script",v)])/\∀base:Heap,K.In base->base.Ns mainGlobals mg->FnOk P w K mg base CX0 (k+1) fa fd ["script"] (spL K):=by
 obtain⟨f,oc,od,an,osl,kV,doc,pm,cdv,ct,h1,h2,h3,h4⟩:=t
 have e:=hfa.symm.trans (PySem.W.mg_of X hN h1)
 cases e
 have Fn:=iS (st:=st) h2 h3 h4
 refine⟨_,λs v=>.of_eq (b "law" kV doc pm an cdv ct [v] rfl),λbase KB hB=>EW (f:=dfn n k N ["script"] st G) (Bt Fn S λcdv A outer s H E hr=>?_) hf⟩
 exact(t9 n).2 _ _ (nr (g base KB hB) S cdv A outer s H E hr) _
theorem cn_int {K} (X:K.In h) (hN:h.Ns mainGlobals mg) (t:∃t,nsIn K mainGlobals x=some (some (.int i t))):Cn K mg x (.int i):=by
 obtain⟨t,e⟩:=t;exact⟨_,_,PySem.W.mg_of X hN e,(show RelV (.int i) _ from⟨t,rfl⟩),λH=>rfl⟩
theorem cn_2str {K} (X:K.In h) (hN:h.Ns mainGlobals mg) (t:∃ (a:Addr) (od:Option Addr) (n:Nat) (sl:Array (Option Value)) (t0:Tok) (t1:Tok),nsIn K mainGlobals x=some (some (.ref a))/\K.lookup a=some ⟨.type "tuple",od,.seq #[.str y t0,.str z t1] n,sl⟩):Cn K mg x (.tup [.str y,.str z]):=by
 obtain⟨a,od,n,sl,t0,t1,e,l⟩:=t;refine⟨.ref a,_,PySem.W.mg_of X hN e,rfl,λH=>⟨a,[.str y,.str z],rfl,.inr ⟨_,_,n,l,rfl,rfl,?_,?_⟩,⟨_,_,rfl,rfl,⟨_,_,rfl,rfl,rfl⟩⟩⟩⟩
 ·show 2<=sizeLine;decide
 ·exact .cons ⟨t0,rfl⟩ (.cons ⟨t1,rfl⟩ .nil)
theorem fl_one {K} (t:∃Ca,nsIn K mainGlobals C=some (some (.ref Ca))/\findIn K (.ref Ca) m=some none) (h:f=m):∀Ca,nsIn K mainGlobals C=some (some (.ref Ca))->NoAttr K Ca f:=λCa hc=>by
 obtain⟨Cb,e,n⟩:=t;rw[hc]at e;cases e;rw[h];exact n
theorem ml {K} (c:TCls K C) (hc:nsIn K mainGlobals C=some (some (.ref Ca))):Cls K Ca:=by
 obtain⟨Cb,e,cl,_,_⟩:=c.ex;rw[hc]at e;cases e;exact cl
theorem Lm {K} {st} {kV doc pm cdv ct} (a:nsIn K mainGlobals x=some (some (.ref f))) (l:K.lookup f=some ⟨oc,od,.func (PySem.W.fnOf x x (cc st) (aC st) (aj st) .none kV doc pm an cdv ct),osl⟩) (c:PySem.W.codeIn K cdv x=true) (k:PySem.W.keepIn K (.ref f)=true):ck K x st:=⟨f,oc,od,an,osl,kV,doc,pm,cdv,ct,a,l,c,k⟩
theorem BX {K} {st} {kV doc pm cdv ct} (a:nsIn K mainGlobals C=some (some (.ref Ca))) (n:findIn K (.ref Ca) m=some (some (.ref f))) (i:PySem.W.isFn K (.ref f)=true) (l:K.lookup f=some ⟨oc,od,.func (PySem.W.fnOf m qual (cc st) (aC st) (aj st) .none kV doc pm an cdv ct),osl⟩) (c:PySem.W.codeIn K cdv qual=true) (k:PySem.W.keepIn K (.ref f)=true):nq K C m qual st:=⟨Ca,f,oc,od,an,osl,kV,doc,pm,cdv,ct,a,n,i,l,c,k⟩
theorem IM {K} (a:nsIn K mainGlobals C=some (some (.ref Ca))) (pg:PySem.W.plainGet K Ca Str.empty=true) (hd:PySem.W.hasDictIn K Ca=true) (po:PySem.W.plainOver K Ca=true) (sa:findIn K (.ref Ca) "__setattr__"=some (some (.builtin "object.__setattr__"))) (mk:PySem.W.makesIn K Ca=true) (kc:PySem.W.keepIn K (.ref Ca)=true):TCls K C:=⟨Ca,a,⟨pg,hd,po,sa⟩,mk,kc⟩
theorem tno {K} (a:nsIn K mainGlobals C=some (some (.ref Ca))) (n:findIn K (.ref Ca) m=some none):∃Ca,nsIn K mainGlobals C=some (some (.ref Ca))/\findIn K (.ref Ca) m=some none:=⟨Ca,a,n⟩
theorem wx {K} (a:nsIn K mainGlobals x=some (some (.int i t))):∃t,nsIn K mainGlobals x=some (some (.int i t)):=⟨t,a⟩
theorem IN {K} (e:nsIn K mainGlobals x=some (some (.ref a))) (l:K.lookup a=some ⟨.type "tuple",od,.seq #[.str y t0,.str z t1] n,sl⟩):
 ∃ (a:Addr) (od:Option Addr) (n:Nat) (sl:Array (Option Value)) (t0:Tok) (t1:Tok),nsIn K mainGlobals x=some (some (.ref a))/\K.lookup a=some ⟨.type "tuple",od,.seq #[.str y t0,.str z t1] n,sl⟩:=⟨a,od,n,sl,t0,t1,e,l⟩
structure Chg (S:List Addr) (N:Addr->Prop) (h h':Heap):Prop where
 keep:∀b o,h.get? b=some o->b ∉ S->¬N b->h'.get? b=some o
 slot:∀b o,h.get? b=some o->¬N b->∃sl,h'.get? b=some {o with slots:=sl}
 there:∀b o,h.get? b=some o->∃o',h'.get? b=some o'
theorem Chg.trans {S:List Addr} {N:Addr->Prop} {h k1 h2:Heap} (a:Chg S N h k1) (b:Chg S N k1 h2):Chg S N h h2 where
 keep:=λc o q x y=>b.keep c o (a.keep c o q x y) x y
 slot:=λc o q y=>by
  obtain⟨sl,e⟩:=a.slot c o q y;obtain⟨sl',e'⟩:=b.slot c _ e y;exact⟨sl',e'⟩
 there:=λc o q=>by
  obtain⟨o',e⟩:=a.there c o q;exact b.there c o' e
theorem Chg.of (k:∀b o,h.get? b=some o->h'.get? b=some o):Chg S N h h':=
 ⟨λb o q _ _=>k b o q,λb o q _=>⟨o.slots,k b o q⟩,λb o q=>⟨o,k b o q⟩⟩
theorem Chg.upd {S:List Addr} {N:Addr->Prop} {h:Heap} {a:Addr} {o:Obj} {vs:Array Value} (f:Array Value->Array Value) (e:h.get? a=some o) (d:o.data=.fields vs) (n:N a):Chg S N h (h.update a (Obj.mapFields f)) where
 keep:=λb u q _ y=>by
  have hb:b≠a:=λz=>y (z▸n);rw[Heap.get?_update_other _ _ (Ne.symm hb)];exact q
 slot:=λb u q y=>by
  have hb:b≠a:=λz=>y (z▸n);exact⟨u.slots,by rw[Heap.get?_update_other _ _ (Ne.symm hb)];exact q⟩
 there:=λb u q=>by
  by_cases hb:b=a
  ·subst hb;exact⟨_,Heap.get?_update_self _ e (Obj.isFreed_of_fields (Obj.data_mapFields d f))⟩
  ·exact⟨u,by rw[Heap.get?_update_other _ _ (Ne.symm hb)];exact q⟩
theorem zu (f:Array Value->Array Value) (o:Obj):(Obj.mapFields f o).dict=o.dict:=by
 unfold Obj.mapFields;split<;>rfl
def TrX (h:Heap) (N:Addr->Prop) (e:Addr) (cls fl:Value):Prop:=
 ∃oe vs T oT ts,h.get? e=some oe/\(oe.cls=cls/\oe.dict=none)/\oe.data=.fields vs/\N e/\vs[1]?=some (.ref T)/\N T/\T≠e/\h.get? T=some oT/\oT.data=.fields ts/\ts[3]?=some fl
def NwX (h:Heap) (N:Addr->Prop) (e:Addr) (cls:Value):Prop:=
 ∃oe vs,h.get? e=some oe/\(oe.cls=cls/\oe.dict=none)/\oe.data=.fields vs/\N e/\vs[1]?=some .none
theorem TrX.mono (i:∀b,N b->N' b):TrX h N e cls fl->TrX h N' e cls fl:=
 λ⟨oe,vs,T,oT,ts,a1,a2,a3,a4,a5,a6,a7⟩=>⟨oe,vs,T,oT,ts,a1,a2,a3,i _ a4,a5,i _ a6,a7⟩
def AnyX (h:Heap) (N:Addr->Prop) (e:Addr) (cls:Value) (L:Addr):Prop:=NwX h N e cls\/TrX h N e cls .none\/TrX h N e cls (rawInt L)
theorem AnyX.mono (i:∀b,N b->N' b):AnyX h N e cls L->AnyX h N' e cls L
 |.inl ⟨oe,vs,a1,a2,a3,a4,a5⟩=>.inl ⟨oe,vs,a1,a2,a3,i _ a4,a5⟩
 |.inr (.inl t)=>.inr (.inl (t.mono i))
 |.inr (.inr t)=>.inr (.inr (t.mono i))
section
variable {M:Model} {A:Around} {E:Value->Shared->Prop} {s:Shared} {N:Addr->Prop}
theorem zv (fq:A.frames=some (env::outer)) (lf:s.heap.FunFrames base (env::outer)) (ff:env.frame=some L) (ge:s.heap.get? e=some oe) (dn:oe.dict=none) (hd1:oe.data=.fields vs) (hsz:1<vs.size) (hN:∀b,s.heap.get? b=none->N b) (ne:N e) (h:∀h',Chg (frs (env::outer)) N s.heap h'->TrX h' N e oe.cls (rawInt L)->Q () {s with heap:=h'}):
  wpAny M A (do let a<-frameOf env;let pk<-entryPlaceOf L b;let c<-EntryCells.newEntry hd a .none (rawInt L) .none pk;setField (.ref e) 1 c) Q E s:=by
 refine wpAny_bind (wpAny_frameOf_fun fq lf ff λg₁ so=>?_)
 refine wpAny_bind (wpAny_entryPlaceOf λpk pq=>?_)
 have fr:e ∉ frs (env::outer):=λz=>by
  obtain⟨_,o,q,w⟩:=lf.mem z;rw[ge]at q;cases q;exact w vs hd1
 have c1:Chg (frs (env::outer)) N s.heap g₁:=⟨λc o q x _=>(so.2.1 c x).trans q,λc o q _=>so.2.2 c o q,λc o q=>(so.2.2 c o q).elim λsl z=>⟨_,z⟩⟩
 have he₁:g₁.get? e=some oe:=(so.2.1 e fr).trans ge
 unfold EntryCells.newEntry newFields
 refine wpAny_bind (wpAny_newObj_type ?_ (pq.sizeOk5 _ _ _ _ _))
 have he₂:=Heap.get?_push_of_some (h:=g₁) {cls:=.type "traceback",data:=.fields ([hd,.ref L,.none,rawInt L,.none]++(if pk.isEmpty then List.replicate 6 Value.none else pk)).toArray} he₁
 have c2:Chg (frs (env::outer)) N g₁ (g₁.push {cls:=.type "traceback",data:=.fields ([hd,.ref L,.none,rawInt L,.none]++(if pk.isEmpty then List.replicate 6 Value.none else pk)).toArray}):=Chg.of λc o q=>Heap.get?_push_of_some _ q
 refine wpAny_setField he₂ hd1 hsz (h _ ((c1.trans c2).trans (Chg.upd _ he₂ hd1 ne)) ?_)
 have ne':g₁.objs.size≠e:=Nat.ne_of_gt (Heap.lt_size he₁)
 have nT:N g₁.objs.size:=hN _ (Heap.get?_none_of_le (by rw[so.1];exact le_refl _))
 have d3:=Obj.data_mapFields hd1 (·.setIfInBounds 1 (Value.ref g₁.objs.size))
 refine⟨_,_,g₁.objs.size,_,_,Heap.get?_update_self _ he₂ (Obj.isFreed_of_fields d3),⟨Obj.cls_mapFields _ _,(zu _ _).trans dn⟩,d3,ne,by simp[hsz],nT,ne',(Heap.get?_update_other _ _ (Ne.symm ne')).trans (Heap.get?_push_size g₁ rfl),rfl,?_⟩
 first|(simp;done)|(rcases pq with rfl|⟨_,_,_,_,_,_,_,rfl⟩<;>simp)
theorem Dn (fq:A.frames=some (env::outer)) (lf:s.heap.FunFrames base (env::outer)) (ff:env.frame=some L) (hN:∀b,s.heap.get? b=none->N b) (hx:AnyX s.heap N e cls L) (h:∀h',Chg (frs (env::outer)) N s.heap h'->TrX h' N e cls (rawInt L)->Q () {s with heap:=h'}):
  wpAny M A (noteFrame (.ref e) env) Q E s:=by
 unfold noteFrame
 simp only[ff]
 rcases hx with⟨oe,vs,ge,⟨hc,dn⟩,hd,ne,k1⟩|⟨oe,vs,T,oT,ts,ge,⟨hc,dn⟩,hd,ne,k1,nT,hT,eT,dT,k3⟩|t
 ·subst hc;refine wpAny_bind (wpAny_field ge hd k1 ?_);rw[if_neg (by decide)];exact zv fq lf ff ge dn hd (Array.getElem?_eq_some_iff.mp k1).1 hN ne h
 ·subst hc;refine wpAny_bind (wpAny_field ge hd k1 ?_);rw[if_pos (show(Value.ref T !=Value.none)=true by simp)];refine wpAny_bind (wpAny_field eT dT k3 ?_);rw[if_neg (show¬ ((Value.none==rawInt L)=true)by simp[rawInt])];refine wpAny_bind (wpAny_setField eT dT (Array.getElem?_eq_some_iff.mp k3).1 ?_);have c0:Chg (frs (env::outer)) N s.heap (s.heap.update T (Obj.mapFields (·.setIfInBounds 3 Value.none))):=Chg.upd _ eT dT nT;refine zv (base:=base) (s:={s with heap:=s.heap.update T (Obj.mapFields (·.setIfInBounds 3 Value.none))}) (oe:=oe) (vs:=vs) fq ?_ ff ?_ dn hd (Array.getElem?_eq_some_iff.mp k1).1 ?_ ne λh' c t=>h h' (c0.trans c) t
  ·refine lf.of_keeps λb o q w=>?_;have hb:b≠T:=λz=>by
    rw[z,eT]at q;cases q;exact w ts dT
   exact⟨o,by rw[Heap.get?_update_other _ _ (Ne.symm hb)];exact q,rfl⟩
  ·rw[Heap.get?_update_other _ _ hT];exact ge
  ·intro b q;cases e2:s.heap.get? b with
   |none=>exact hN b e2
   |some o=>
    obtain⟨o',z⟩:=c0.there b o e2;rw[z]at q;cases q
 ·have t':=t;obtain⟨oe,vs,T,oT,ts,ge,hc,hd,ne,k1,nT,hT,eT,dT,k3⟩:=t;refine wpAny_bind (wpAny_field ge hd k1 ?_);rw[if_pos (show(Value.ref T !=Value.none)=true by simp)];refine wpAny_bind (wpAny_field eT dT k3 ?_);rw[if_pos (show(rawInt L==rawInt L)=true by simp)];exact wpAny_pure (h s.heap (Chg.of λ_ _ q=>q) t')
theorem qi (hx:TrX s.heap N e cls fl) (h:∀h',Chg S N s.heap h'->TrX h' N e cls .none->Q () {s with heap:=h'}):wpAny M A (setFlight (.ref e) none) Q E s:=by
 obtain⟨oe,vs,T,oT,ts,ge,hc,hd,ne,k1,nT,hT,eT,dT,k3⟩:=hx;have z3:3<ts.size:=(Array.getElem?_eq_some_iff.mp k3).1;unfold setFlight;refine wpAny_bind (wpAny_field ge hd k1 ?_);rw[if_pos (show(Value.ref T !=Value.none)=true by simp)];refine wpAny_setField eT dT z3 (h _ (Chg.upd _ eT dT nT) ?_);refine⟨oe,vs,T,_,_,?_,hc,hd,ne,k1,nT,hT,Heap.get?_update_self _ eT (Obj.isFreed_of_fields (Obj.data_mapFields dT _)),Obj.data_mapFields dT _,by simp[z3]⟩;rw[Heap.get?_update_other _ _ hT];exact ge
theorem Fi (fq:A.frames=some (env::outer)) (lf:s.heap.FunFrames base (env::outer)) (ff:env.frame=some L) (hN:∀b,s.heap.get? b=none->N b) (hx:AnyX s.heap N e cls L) (h:∀h',Chg (frs (env::outer)) N s.heap h'->TrX h' N e cls .none->Q () {s with heap:=h'}):
  wpAny M A (leaving env (.ref e)) Q E s:=by
 unfold leaving
 refine wpAny_bind (Dn fq lf ff hN hx λk1 c1 t1=>?_)
 exact qi (s:={s with heap:=k1}) t1 λh2 c2 t2=>h h2 (c1.trans c2) t2
end
theorem ObjOk.has (x:ObjOk P w H h a o):∃u,h.get? a=some u:=by
 cases o with
 |lst xs=>obtain⟨_,_,_,_,e⟩:=x;exact⟨_,e⟩
 |tup xs=>obtain⟨_,_,_,_,e,_⟩:=x;exact⟨_,e⟩
 |dK kvs=>obtain⟨_,_,_,_,o,_,_,e,_⟩:=x;exact⟨_,e⟩
 |dT kvs=>obtain⟨_,_,_,_,o,_,_,e,_⟩:=x;exact⟨_,e⟩
 |set S n=>obtain⟨o,_,_,_,e,_⟩:=x;exact⟨_,e⟩
 |ins C dx fs=>obtain⟨_,_,_,e,_⟩:=x;exact⟨_,e⟩
 |own y=>obtain⟨_,e⟩:=x;exact⟨_,e⟩
 |xd fs=>obtain⟨_,⟨_,_,_,e,_⟩,_⟩:=x;exact⟨_,e⟩
 |rng lo hi=>obtain⟨_,_,_,e⟩:=x;exact⟨_,e⟩
 |frz ob u=>obtain⟨e,_⟩:=x;exact⟨_,e⟩
 |tbl ps=>exact⟨_,(show h.get? a=some _ from x)⟩
 |cod ps pos q=>
  rcases x with e|⟨_,_,_,_,e,_⟩
  ·exact⟨_,e⟩
  ·exact⟨_,e⟩
 |met f y=>exact⟨_,(show h.get? a=some _ from x)⟩
 |ext φ=>obtain⟨_,⟨_,e⟩,_⟩:=x;exact⟨_,e⟩
def New (g:Heap) (H:Hp) (b:Addr):Prop:=g.get? b=none/\H b=none
theorem Un.chg {fs:List Addr} {L:Addr} {H0 H:Hp} {g h h':Heap} (u:Un fs [] H0 H g h) (c:Chg (L::fs) (New g H) h h') (hL:g.get? L=none):Un fs [] H0 H g h' where
 keep:=λb o q n x y=>c.keep b o (u.keep b o q n x y) (λz=>(mem_cons.mp z).elim (λe=>by rw[e,hL]at q;cases q) x) λz=>by rw[z.1]at q;cases q
 slot:=λb o q n x y=>by
  obtain⟨sl,e⟩:=u.slot b o q n x y;obtain⟨sl',e'⟩:=c.slot b _ e λz=>by rw[z.1]at q;cases q
  exact⟨sl',e'⟩
 free:=u.free
 there:=λb o q y=>by
  obtain⟨o',e⟩:=u.there b o q y;exact c.there b o' e
 tups:=u.tups
 frzs:=u.frzs
 tbls:=u.tbls
theorem HOk.chg (x:HOk P w H h) (c:Chg S (New g H) h h') (hS:∀b∈S,H b=none):HOk P w H h':=λa o e=>
 (x a o e).stay (λb u z q=>by
  have hb:H b≠none:=by
   rcases z with rfl|z
   ·rw[e];intro y;cases y
   ·rw[z];intro y;cases y
  exact c.keep b u q (λy=>hb (hS b y)) λy=>hb y.2) (λ_ q=>q) λ_ _ q=>q
def CXE (P:Program) (w:World):CXT:=λouter H s E e s'=>
 ∃a C H',e=.ref a/\TrX s'.heap (New s.heap H') a (.ref C) .none/\s'.os=s.os/\AllBare s'.gens/\Un (frs outer) [] H H' s.heap s'.heap/\HOk P w H' s'.heap/\E (.ref C) none H'
section
variable {P:Program} {w:World} {K:Frag} {mg:Str->Option Value} {base:Heap} {NN:List Str} {qual:Str} {scope:Scope} {f:Addr} {cd:Value} {A:Around} {outer:List Env} {s0:Shared} {H0:Hp} {E:XK}
theorem Ln {Y:St} (I:Inv (gq (CXE P w) P w K mg base NN qual scope f cd A outer s0 H0 E) pins Y H s') (hx:AnyX s'.heap (New s0.heap H) e (.ref C) s0.heap.objs.size) (q:E (.ref C) none H):
  (gq (CXE P w) P w K mg base NN qual scope f cd A outer s0 H0 E).xe (.ref e) s':=by
 have ff:(envOfC qual scope s0.heap.objs.size f cd).frame=some s0.heap.objs.size:=rfl
 have hN:∀b,s'.heap.get? b=none->New s0.heap H b:=λb z=>by
  refine⟨?_,?_⟩
  ·cases e2:s0.heap.get? b with
   |none=>rfl
   |some o=>
    obtain⟨o',y⟩:=I.base.there b o e2 (by intro y;cases y);rw[y]at z;cases z
  ·cases e2:H b with
   |none=>rfl
   |some o=>
    obtain⟨o',z'⟩:=(I.hok b o e2).has;rw[z']at z;cases z
 refine Fi (base:=base) I.ok.frames I.stack ff hN hx λh' c t=>?_
 refine⟨e,C,H,rfl,t,I.os,I.bare,?_,?_,q⟩
 ·refine Un.chg (L:=s0.heap.objs.size) I.base ?_ (Heap.get?_none_of_le (le_refl _));exact c
 ·exact HOk.chg I.hok c I.stkFree
end
def NP (X:Cx) (pins:List (Addr×Obj)) (H:Hp) (b:Addr):Prop:=
 X.s₀.heap.get? b=none/\H b=none/\b≠X.env.locals/\(∀x c,X.env.cells.lookup x=some c->c≠b)/\(∀p∈X.pn++pins,p.1≠b)/\b ∉ frs X.stack
section
variable {X:Cx} {pins:List (Addr×Obj)} {Y:St} {H H':Hp} {s s':Shared}
theorem Inv.nowh (I:Inv X pins Y H s) (hx:X.ex=[]) (q:s.heap.get? b=none):NP X pins H b:=by
 refine⟨?_,?_,?_,?_,?_,?_⟩
 ·cases e:X.s₀.heap.get? b with
  |none=>rfl
  |some o=>
   obtain⟨o',y⟩:=I.base.there b o e (by rw[hx];intro z;cases z);rw[y]at q;cases q
 ·cases e:H b with
  |none=>rfl
  |some o=>
   obtain⟨o',y⟩:=(I.hok b o e).has;rw[y]at q;cases q
 ·rintro rfl;obtain⟨m,⟨o,_,_,e,_⟩,_⟩:=I.loc;rw[e]at q;cases q
 ·rintro x c e rfl;obtain⟨v,o,e1,_⟩:=I.cell x c e;rw[e1]at q;cases q
 ·rintro p hp rfl;have:=(I.pin p hp).1;rw[this]at q;cases q
 ·intro z;obtain⟨_,o,e,_⟩:=I.stack.mem z;rw[e]at q;cases q
theorem Inv.chg (I:Inv X pins Y H s) (hx:X.ex=[]) (c:Chg (frs X.stack) (NP X pins H) s.heap h'):Inv X pins Y H {s with heap:=h'}:=by
 have out:∀b,b∈frs X.stack->b≠X.env.locals->b∈X.fs:=λb z n=>(mem_cons.mp (I.stkSub b z)).elim (λe=>absurd e n) id;refine⟨I.ok,I.os,I.bare,?_,?_,?_,I.free,I.freeC,?_,?_,I.len⟩
 ·have u:=I.base;refine⟨λb o q n x y=>?_,λb o q n x y=>?_,u.free,λb o q y=>?_,u.tups,u.frzs,u.tbls⟩
  ·refine c.keep b o (u.keep b o q n x y) (λz=>?_) λz=>?_
   ·rcases mem_cons.mp (I.stkSub b z)with e|e
    ·rw[e]at q;exact absurd (Heap.lt_size q) (Nat.not_lt_of_le I.ok.above)
    ·exact x e
   ·rw[z.1]at q;cases q
  ·obtain⟨sl,e⟩:=u.slot b o q n x y;obtain⟨sl',e'⟩:=c.slot b _ e λz=>by rw[z.1]at q;cases q
   exact⟨sl',e'⟩
  ·obtain⟨o',e⟩:=u.there b o q y;exact c.there b o' e
 ·obtain⟨m,⟨o,es,ep,e,r⟩,f⟩:=I.loc;obtain⟨sl,e'⟩:=c.slot _ o e λz=>z.2.2.1 rfl;refine⟨m,⟨_,es,ep,e',r⟩,λi x v a1 a2 a3=>?_⟩;obtain⟨u,r',l⟩:=f i x v a1 a2 a3;refine⟨u,r',?_⟩;rcases l with l|⟨l1,k,l2,o2,e2,d2⟩
  ·exact .inl l
  ·obtain⟨sl2,e3⟩:=c.slot k o2 e2 λz=>z.2.2.2.1 x k l2 rfl;exact .inr ⟨l1,k,l2,_,e3,d2⟩
 ·intro x k l;obtain⟨v,o2,e2,d2⟩:=I.cell x k l;obtain⟨sl2,e3⟩:=c.slot k o2 e2 λz=>z.2.2.2.1 x k l rfl;exact⟨v,_,e3,d2⟩
 ·intro p hp;obtain⟨a1,a2,a3,a4,a5⟩:=I.pin p hp;refine⟨c.keep p.1 p.2 a1 (λz=>?_) (λz=>z.2.2.2.2.1 p hp rfl),a2,a3,a4,a5⟩;rcases mem_cons.mp (I.stkSub _ z)with e|e
  ·exact a3 e
  ·exact a4 e
 ·exactλa o e=>(I.hok a o e).stay (λb u z q=>by
   have hb:H b≠none:=by
    rcases z with rfl|z
    ·rw[e];intro y;cases y
    ·rw[z];intro y;cases y
   exact c.keep b u q (λy=>hb (I.stkFree b y)) λy=>hb y.2.1) (λ_ q=>q) λ_ _ q=>q
theorem Inv.raised {P:Program} {w:World} (I:Inv X pins Y H s) (hx:X.ex=[]) (hc:CXE X.prog X.w X.stack H s E e s'):
  ∃a C H',e=.ref a/\Inv X pins Y H' s'/\TrX s'.heap (NP X pins H') a (.ref C) .none/\E (.ref C) none H':=by
 obtain⟨a,C,H',rfl,t,os,br,u,ok,q⟩:=hc
 have I':=I.call' (ch:=[]) os u ok br λb z=>by cases z
 refine⟨a,C,H',rfl,I',t.mono λb z=>?_,q⟩
 have n:=I.nowh hx z.1
 exact⟨n.1,z.2,n.2.2⟩
end
def SX (X:Cx) (B:Bs) (x:Str) (e:Value) (s:Shared):Prop:=
 ∃a C pins Y H O U,e=.ref a/\Inv X pins Y H s/\EnvOk X.K B O Y H U/\nsIn X.K mainGlobals x=some (some (.ref C))/\AnyX s.heap (NP X pins H) a (.ref C) X.env.locals
structure Own (X:Cx):Prop where
 ex:X.ex=[]
 stk:X.stack=X.env::X.outer
 fr:X.env.frame=some X.env.locals
def PZ (X:Cx) (st:List Stmt) (G:Ev->Option Str):Prop:=∀B O U x pins s Y H,G U=some x->Inv X pins Y H s->EnvOk X.K B O Y H U->
 wpAny (model X.prog X.w) X.A (execs st X.env) (λ_ _=>False) (SX X B x) s
def PZ1 (X:Cx) (st:Stmt) (G:Ev->Option Str):Prop:=∀B O U x pins s Y H,G U=some x->Inv X pins Y H s->EnvOk X.K B O Y H U->
 wpAny (model X.prog X.w) X.A (exec st X.env) (λ_ _=>False) (SX X B x) s
def noZ:Ev->Option Str:=λ_=>none
def sqZ (F:Ev->Option Out) (G:Ev->Option Str):Ev->Option Str:=λU=>(F U).bind λo=>match o with|.nx U'=>G U'|_=>none
section
variable {X:Cx} {st:Stmt} {rest:List Stmt} {F:Ev->Option Out} {G G':Ev->Option Str}
theorem Do:PZ X rest noZ:=λ_ _ _ _ _ _ _ _ q=>by cases q
theorem iZ:PZ1 X st noZ:=λ_ _ _ _ _ _ _ _ q=>by cases q
theorem IP (h:PZ X rest G) (h':PZ X rest G'):PZ X rest (orO G G'):=λB O U x pins s Y H q I E=>by
 rcases or_some q with q|q
 ·exact h B O U x pins s Y H q I E
 ·exact h' B O U x pins s Y H q I E
theorem vo (h:PZ1 X st G):PZ X (st::rest) G:=λB O U x pins s Y H q I E=>
 wpAny_execs_cons (thn (h B O U x pins s Y H q I E) λ_ _ z=>False.elim z)
theorem IQ (h:PR X.nox st F) {Y:St} (q:F U=some (.nx U')) (I:Inv X pins Y H s) (E:EnvOk X.K B O Y H U) (k:∀O' Y' H' s',Inv X pins Y' H' s'->EnvOk X.K B O' Y' H' U'->Q .next s'):wpAny (model X.prog X.w) X.A (exec st X.env) Q E' s:=by
 refine wpAny_mono (h B O U pins s Y H {nx:=λY' H'=>∃O',EnvOk X.K B O' Y' H' U',rt:=λ_ _=>False} (I.wish _) ⟨E,_,q,λY' H' O' _ E'=>⟨O',E'⟩⟩) (λf s' z=>?_) λ_ _ z=>False.elim z;cases f with
 |next=>
  obtain⟨Y',H',I',O',E'⟩:=z;exact k O' Y' H' s' I'.unwish E'
 |brk=>obtain⟨_,_,_,z⟩:=z;exact False.elim z
 |cont=>obtain⟨_,_,_,z⟩:=z;exact False.elim z
 |ret u=>obtain⟨_,_,_,_,_,z⟩:=z;exact False.elim z
theorem BY (h:PR X.nox st F) (h':PZ X rest G):PZ X (st::rest) (sqZ F G):=λB O U x pins s Y H q I E=>by
 obtain⟨o,q1,q2⟩:=bind_some q;cases o with
 |nx U'=>exact wpAny_execs_cons (IQ h q1 I E λO' Y' H' s' I' E'=>h' B O' U' x pins s' Y' H' q2 I' E')
 |_=>cases q2
end
abbrev bmV:List Value:=[.type "ValueError",.type "Exception",.type "BaseException",.type "object"]
structure RCls (K:Frag) (mg:Str->Option Value) (base:Heap) (x:Str):Prop where
 ex:∃C,nsIn K mainGlobals x=some (some (.ref C))/\OwnCls x C bmV "ValueError.__new__" mg base
def raZ (x:Str):Ev->Option Str:=λ_=>some x
section
variable {X:Cx} {x:Str}
theorem zw (o:Own X) (hc:X.calm=true) (c:RCls X.K X.mg X.base x) (gl:Gl X x) (hd:(x==("__debug__":Str))=false):PZ1 X (.Raise (some (.Call (.Name x np) [.Constant (.str m) j mp] [] cpos)) none pos) (raZ x):=by
 intro B O U y pins s Y H q I E;cases q;obtain⟨C,hC,oc⟩:=c.ex;obtain⟨tl,N,nm,qn,bs,hdct,sn,sub,ab,col,dd,k0,k1,k2,k3,k5,mN,hO,hN,hni,T⟩:=oc.obj;refine wpAny_Raise_call_subT (C:=C) (nm:=nm) (q:=qn) (N:=N) (bs:=bs) (bm:=tl) (hdct:=hdct) (sn:=sn) (sub:=sub) (ab:=ab) (col:=col) (dd:=dd) (k0:=k0) (k1:=k1) (k2:=k2) (k3:=k3) (k5:=k5)
  PySem.F.excBase_ValueError (mN:=mN) (T.hasType PySem.F.excBase_ValueError.hasBase) (I.ok.hd hc) rfl hni (fG I gl oc.bound ⟨rfl,?_⟩ hd)
 have h:=(bK (X:=X.wish (SX X B x)) (pe_str (x:=m) (j:=j) (pos:=mp)) pa_nil) cpos pins s Y H (λvs H1=>vs.length<=sizeLine/\H1=H) (I.wish _) ⟨(show 1<=sizeLine by decide),rfl⟩;refine Calls.evalArgs_plain (wpAny_mono h (λus s2 z=>?_) λ_ _ z=>z);obtain⟨vs,H1,I2,r,hl,rfl⟩:=z;have I2:=I2.unwish;refine⟨rfl,by rw[<-r.length];exact hl,I2.bk _ _ hO,hN.keeps I2.bk,T.keeps I2.bk,λh' e mk=>?_⟩;have I3:Inv X pins Y H1 {s2 with heap:=h'}:=I2.kept (t':=s2.toks) mk.keeps;obtain⟨t,he,_,_⟩:=mk.there;exact⟨e,C,pins,Y,H1,O,U,rfl,I3,E,hC,.inl ⟨_,_,he,⟨rfl,rfl⟩,rfl,I2.nowh o.ex mk.new,rfl⟩⟩
end
def EX (X:Cx) (B:Bs) (O:Addr->Bool) (U:Ev) (pins:List (Addr×Obj)) (Y:St) (H0:Hp) (x:Str) (e:Value) (s:Shared):Prop:=
 ∃a C H,e=.ref a/\Same H0 H/\Inv X pins Y H s/\EnvOk X.K B O Y H U/\nsIn X.K mainGlobals x=some (some (.ref C))/\TrX s.heap (NP X pins H) a (.ref C) .none
theorem EX.sx:EX X B O U pins Y H0 x e s->SX X B x e s:=
 λ⟨a,C,H,h1,_,h2,h3,h4,h5⟩=>⟨a,C,pins,Y,H,O,U,h1,h2,h3,h4,.inr (.inl h5)⟩
def PZE (X:Cx) (e:Expr) (G:Ev->Option Str):Prop:=∀B O U x pins s Y H,G U=some x->Inv X pins Y H s->EnvOk X.K B O Y H U->
 wpAny (model X.prog X.w) X.A (eval e X.env) (λ_ _=>False) (EX X B O U pins Y H x) s
def spX (K:Frag) (g:List D->Option Str):Sp:=λvs H _ E=>∃O ds x,(∀b,O b=true->Hid (H b))/\IsL K (msk O H) ds vs/\g ds=some x/\∀C H',nsIn K mainGlobals x=some (some (.ref C))->Same H H'->E (.ref C) none H'
structure Dx (P:Program) (w:World) (K:Frag) (mg:Str->Option Value) (base:Heap) (f:Str) (k:Nat) (g:List D->Option Str):Prop where
 ex:∃ (a:Addr) (fd:FuncData) (ps:List Str),mg f=some (.ref a)/\PySem.W.keepIn K (.ref a)=true/\Binds K fd ps []/\FnOk P w K mg base (CXE P w) k a fd ps (spX K g)
structure Mx (P:Program) (w:World) (K:Frag) (mg:Str->Option Value) (base:Heap) (C:Str) (k:Nat) (g:List D->Option Str):Prop where
 ex:∃ (Ca fa:Addr) (fd:FuncData) (ps:List Str) (g':List D->Option Str),mg C=some (.ref Ca)/\Mk K Ca fa/\Binds K fd ps []/\FnOk P w K mg base (CXE P w) k fa fd ps (spX K g')/\∀ds x,g ds=some x->∀y,g' (.adr y::ds)=some x
def clZ (xs:Vv->Option (List D)) (g:List D->Option Str):Ev->Option Str:=λU=>(xs (vw U)).bind g
section
variable {X:Cx} {x f:Str} {e:Expr} {es:List Expr} {p pos:Pos} {k:Nat} {g:List D->Option Str} {fa:Vv->Option (List D)}
theorem zy (o:Own X) (D:Dx X.prog X.w X.K X.mg X.base f k g) (hr:Room k X.A) (gl:Gl X f) (ha:∀E,PX (X.wish E) (e::es) fa) (hdb:(f==("__debug__":Str))=false)
  (he:starEach (e::es) X.env=(false,eval e X.env)::starEach es X.env) (hpl:(backTo pos (starEach es X.env)).any (·.1)=false):PZE X (.Call (.Name f p) (e::es) [] pos) (clZ fa g):=by
 intro B O U x pins s Y H q I E
 obtain⟨ds,q1,q2⟩:=bind_some q
 obtain⟨a,fd,ps,hm,hk,hb,F⟩:=D.ex
 refine wpAny_Call_Name_kw (fG I gl hm ?_ hdb)
 refine PySem.W.callWith_K (h₀:=X.base) I.ok.mod.kin hk (thn ((ha (EX X B O U pins Y H x)) noO (vw U) pos pins s Y H (λvs H1=>Same H H1/\IsL X.K H1 ds vs) (I.wish _) ⟨E.view,ds,q1,λvs H1 s1 il=>⟨s1,by rw[dL]at il;exact il⟩⟩) λus s1 ⟨vs,H1,I1,r,s2,il⟩=>⟨I1.unwish.kIn,?_⟩) he hpl
 have I1:=I1.unwish
 have hsp:spX X.K g vs H1 (λ_ _=>False) (λcl _ H'=>Same H1 H'/\∃C,cl=.ref C/\nsIn X.K mainGlobals x=some (some (.ref C))):=⟨noO,ds,x,λ_ z=>(nomatch z),by rw[dL];exact il,q2,λC H' hC s=>⟨s,C,rfl,hC⟩⟩
 have hl:us.length=ps.length:=by rw[<-r.length];exact F.len _ _ _ _ hsp
 have hb':=hb s1 us I1.kIn (by rw[List.append_nil];exact hl)
 rw[List.append_nil]at hb'
 refine wpAny_call (codeAny_mono (F.run X.A X.stack s1 H1 ⟨us,[]⟩ us vs _ _ hr I1.env0 hb' r hsp) λr s' hq=>?_)
 cases r with
 |error ev=>
  obtain⟨a,C,H',rfl,I2,t,s3,C',e1,hC⟩:=I1.raised (P:=X.prog) (w:=X.w) (e:=ev) (s':=s') (E:=λcl _ H'=>Same H1 H'/\∃C,cl=.ref C/\nsIn X.K mainGlobals x=some (some (.ref C))) o.ex hq;cases e1;exact⟨a,C,H',rfl,s2.trans s3,I2,E.grow (s2.trans s3),hC,t⟩
 |ok fl=>
  cases fl with
  |ret u=>obtain⟨_,_,_,_,_,_,_,z⟩:=hq;exact False.elim z
  |next=>exact False.elim hq
  |brk=>exact False.elim hq
  |cont=>exact False.elim hq
theorem zA (o:Own X) (D:Mx X.prog X.w X.K X.mg X.base f k g) (hr:Room (k+1) X.A) (gl:Gl X f) (ha:∀E,PX (X.wish E) (e::es) fa) (hdb:(f==("__debug__":Str))=false)
  (he:starEach (e::es) X.env=(false,eval e X.env)::starEach es X.env) (hpl:(backTo pos (starEach es X.env)).any (·.1)=false):PZE X (.Call (.Name f p) (e::es) [] pos) (clZ fa g):=by
 intro B O U x pins s Y H q I E
 obtain⟨ds,q1,q2⟩:=bind_some q
 obtain⟨Ca,f1,fd,ps,g',hm,M,hb,F,hg⟩:=D.ex
 refine wpAny_Call_Name_kw (fG I gl hm ?_ hdb)
 refine PySem.W.callWith_K (h₀:=X.base) I.ok.mod.kin M.kp (thn ((ha (EX X B O U pins Y H x)) noO (vw U) pos pins s Y H (λvs H1=>Same H H1/\IsL X.K H1 ds vs) (I.wish _) ⟨E.view,ds,q1,λvs H1 s1 il=>⟨s1,by rw[dL]at il;exact il⟩⟩) λus s1 ⟨vs,H1,I1,r,s2,il⟩=>⟨I1.unwish.kIn,?_⟩) he hpl
 have I1:=I1.unwish
 have I2:=Inv.made (C:=Ca) I1
 have f0:H1 s1.heap.objs.size=none:=I1.hok.fresh (le_refl _)
 have f1':H1 (s1.heap.objs.size+1)=none:=I1.hok.fresh (Nat.le_succ _)
 have sm:Same H1 (upd (upd H1 s1.heap.objs.size (.own (s1.heap.objs.size+1))) (s1.heap.objs.size+1) (.ins Ca s1.heap.objs.size [])):=λb u z=>by
  have n0:b≠s1.heap.objs.size:=λy=>by rw[y,f0]at z;cases z
  have n1:b≠s1.heap.objs.size+1:=λy=>by rw[y,f1']at z;cases z
  rw[ag n1,ag n0];exact z
 have hsp:spX X.K g' (.ref (s1.heap.objs.size+1)::vs) (upd (upd H1 s1.heap.objs.size (.own (s1.heap.objs.size+1))) (s1.heap.objs.size+1) (.ins Ca s1.heap.objs.size [])) (λ_ _=>False) (λcl _ H'=>Same H1 H'/\∃C,cl=.ref C/\nsIn X.K mainGlobals x=some (some (.ref C))):=
  ⟨noO,.adr (s1.heap.objs.size+1)::ds,x,λ_ z=>(nomatch z),by rw[dL];exact⟨_,_,rfl,rfl,IsL.mono sm _ _ il⟩,hg ds x q2 _,λC H' hC s=>⟨sm.trans s,C,rfl,hC⟩⟩
 have r2:Vals (V.ref (s1.heap.objs.size+1)::vs) (Value.ref (s1.heap.objs.size+1)::us):=.cons rfl r
 have hl:(Value.ref (s1.heap.objs.size+1)::us).length=ps.length:=by rw[<-r2.length];exact F.len _ _ _ _ hsp
 have hb':=hb _ (Value.ref (s1.heap.objs.size+1)::us) I2.kIn (by rw[List.append_nil];exact hl)
 rw[List.append_nil]at hb'
 refine wpAny_call (qP (f:=f1) I1.kIn M.makes M.init (beq_iff_eq.mp M.fn) (codeAny_mono (F.run _ X.stack _ _ ⟨Value.ref (s1.heap.objs.size+1)::us,[]⟩ (Value.ref (s1.heap.objs.size+1)::us) _ _ _ (hr.make Ca us [])
  (I2.env0.make Ca us []) hb' r2 hsp) λr s' hq=>?_))
 cases r with
 |error ev=>
  obtain⟨a,C,H',rfl,I3,t,s3,C',e1,hC⟩:=I2.raised (P:=X.prog) (w:=X.w) (e:=ev) (s':=s') (E:=λcl _ H'=>Same H1 H'/\∃C,cl=.ref C/\nsIn X.K mainGlobals x=some (some (.ref C))) o.ex hq;cases e1;exact⟨a,C,H',rfl,s2.trans s3,I3,E.grow (s2.trans s3),hC,t⟩
 |ok fl=>
  cases fl with
  |ret u=>obtain⟨_,_,_,_,_,_,_,z⟩:=hq;exact False.elim z
  |next=>exact False.elim hq
  |brk=>exact False.elim hq
  |cont=>exact False.elim hq
end
section
variable {X:Cx} {e c tg iter:Expr} {st:Stmt} {pos:Pos} {G G':Ev->Option Str} {a b body:List Stmt}
def tZ (K:Frag) (B:Bs) (G:Ev->Option Str) (x:Str):TE:=λY H _=>∃O U,EnvOk K B O Y H U/\G U=some x
theorem PZE.pe (h:PZE X e G) (B:Bs) (x:Str):PE (X.wish (SX X B x)) e (tZ X.K B G x):=λpins s Y H Q I ⟨O,U,E,q⟩=>
 wpAny_mono (h B O U x pins s Y H q I.unwish E) (λ_ _ z=>False.elim z) λ_ _ z=>z.sx
def nE:Ends:={nx:=λ_ _=>False,rt:=λ_ _=>False}
theorem IR:SP X pins nE f s->False:=λz=>by
 cases f with
 |next=>obtain⟨_,_,_,z⟩:=z;exact z
 |brk=>obtain⟨_,_,_,z⟩:=z;exact z
 |cont=>obtain⟨_,_,_,z⟩:=z;exact z
 |ret u=>obtain⟨_,_,_,_,_,z⟩:=z;exact z
theorem qj {t:Bs->Str->TS} (h:∀B x,PS (X.wish (SX X B x)) st (t B x)) (k:∀B O U x Y H,G U=some x->EnvOk X.K B O Y H U->t B x nE Y H):PZ1 X st G:=λB O U x pins s Y H q I E=>
 thn (h B x pins s Y H nE (I.wish _) (k B O U x Y H q E)) λ_ _ z=>IR z
theorem BZ (h:PZE X e G) (hs:swapsWith e none pos.line X.env=pure false):PZ1 X (.Expr e pos) G:=
 qj (λB x=>ib (h.pe B x) hs) λB O U x Y H q E=>⟨O,U,E,q⟩
theorem Fj (h:PZE X e G):PZ1 X (.Return (some e) pos) G:=
 qj (λB x=>sI (h.pe B x)) λB O U x Y H q E=>⟨O,U,E,q⟩
theorem Fk {i:Nat} (h:PZE X e G) (hN:X.N.Nodup) (hi:X.N[i]?=some y) (hx:Loc X.env.scope y) (hs:swapsWith e (some (.Name y pos')) pos.line X.env=pure false) (hf:X.fn y=true\/X.env.scope.names.lookup y=some .local):PZ1 X (.Assign [.Name y pos'] e pos) G:=
 qj (λB x=>wP (X:=X.wish (SX X B x)) hN hi hx (h.pe B x) hs hf) λB O U x Y H q E=>⟨O,U,E,q⟩
def ifZ (fc:Vv->Option Bool) (G G':Ev->Option Str):Ev->Option Str:=λU=>(fc (vw U)).bind λc=>if c=true then G U else G' U
theorem PZ.ps (h:PZ X a G) (B:Bs) (x:Str):PSs (X.wish (SX X B x)) a (λ_ Y H=>∃O U,EnvOk X.K B O Y H U/\G U=some x):=λpins s Y H D I ⟨O,U,E,q⟩=>
 thn (h B O U x pins s Y H q I.unwish E) λ_ _ z=>False.elim z
theorem IS (hc:∀E,PQ (X.wish E) c fc) (ha:PZ X a G) (hb:PZ X b G'):PZ1 X (.If c a b pos) (ifZ fc G G'):=
 qj (t:=λB x En Y H=>∃O U,EnvOk X.K B O Y H U/\ifZ fc G G' U=some x) (λB x pins s Y H D I ⟨O,U,E,q⟩=>by
  obtain⟨d,q1,q2⟩:=bind_some q;refine CO (hc _ noO (vw U)) (ha.ps B x) (hb.ps B x) pins s Y H D I ⟨E.view,d,q1,λH' s'=>?_⟩;cases d with
  |true=>rw[if_pos rfl]at q2;exact AU ⟨O,U,E.grow s',q2⟩
  |false=>rw[if_neg Bool.false_ne_true]at q2;exact AT ⟨O,U,E.grow s',q2⟩) λB O U x Y H q E=>⟨O,U,E,q⟩
end
structure Zn where
 cl:Str->Bool
 df:Str->Option (Nat×(List D->Option Str))
 mz:Str->Option (Nat×(List D->Option Str))
structure ZOk (P:Program) (w:World) (K:Frag) (mg:Str->Option Value) (base:Heap) (Z:Zn):Prop where
 cl:∀x,Z.cl x=true->RCls K mg base x
 df:∀f k g,Z.df f=some (k,g)->Dx P w K mg base f k g
 mz:∀f k g,Z.mz f=some (k,g)->Mx P w K mg base f k g
def zcF (S:Sn) (Z:Zn) (f:Str) (xs:Vv->Option (List D)):Ev->Option Str:=match Z.df f with
 |some (k,g)=>if k<=S.k then clZ xs g else noZ
 |none=>match Z.mz f with
  |some (k,g)=>if k+1<=S.k then clZ xs g else noZ
  |none=>noZ
def lb (n:Nat) (S:Sn) (Z:Zn):Expr->Ev->Option Str
 |.Call f as ks _=>(match f,as,ks with
  |.Name f _,a::as,[]=>if glS S f&&(a::as).all aQ then zcF S Z f (rx n S (a::as))else noZ
  |_,_,_=>noZ)
 |_=>noZ
def rsC:Option Expr->Option Expr->Option Str
 |some (.Call (.Name x _) [.Constant (.str _) _ _] [] _),none=>some x
 |_,_=>none
def zq:Stmt->Bool
 |.Assign _ _ _=>true
 |.For _ _ _ _ _=>true
 |.Return (some (.Name _ _)) _=>true
 |.Return (some (.Tuple _ _ _)) _=>true
 |.Return (some (.ListComp _ _ _ _)) _=>true
 |_=>false
mutual
def zx:Nat->Sn->Zn->Stmt->Ev->Option Str
 |0=>λ_ _ _=>noZ
 |n+1=>λS Z st=>match st with
  |.Raise a b _=>(match rsC a b with|some x=>if glS S x&&Z.cl x then raZ x else noZ|none=>noZ)
  |.If c a b _=>ifZ (rq n S c) (zxs n S Z a) (zxs n S Z b)
  |.Expr e _=>lb n S Z e
  |.Return (some e) _=>lb n S Z e
  |.Assign [.Name y _] e _=>(match pf S y with|some _=>lb n S Z e|none=>noZ)
  |_=>noZ
def zxs:Nat->Sn->Zn->List Stmt->Ev->Option Str
 |0=>λ_ _ _=>noZ
 |n+1=>λS Z st=>match st with
  |[]=>noZ
  |s::r=>if r.all zq then zx n S Z s else orO (zx n S Z s) (sqZ (ex n S s) (zxs n S Z r))
end
section
variable {X:Cx} {S:Sn} {Z:Zn}
theorem SnOk.wish (o:SnOk X.nox S) (E:Value->Shared->Prop):SnOk (X.wish E) S:=⟨o.g,o.N,o.nd,o.calm,o.room,o.loc,o.cel,o.fre,o.glo⟩
theorem j5:PZE X e noZ:=λ_ _ _ _ _ _ _ _ q=>by cases q
theorem IT (w:Own X) (o:TnOk X.nox S) (z:ZOk X.prog X.w X.K X.mg X.base Z) (n:Nat):PZE X (.Call (.Name f p) (a::as) [] q) (if glS S f&&(a::as).all aQ then zcF S Z f (rx n S (a::as))else noZ):=by
 split
 ·rename_i h;rw[and_eq_true]at h;obtain⟨ok,gl⟩:=bc o.s h.1;have gl:Gl X f:=gl;obtain⟨n1,_,_⟩:=bn ok;have ha:=h.2;rw[List.all_cons,and_eq_true]at ha;unfold zcF;split
  ·rename_i k g hf;split
   ·rename_i hk;exact zy w (z.df f k g hf) (o.s.room.mono hk) gl (λE=>(sound n).rx _ S (o.s.wish E) _) n1 (star1 ha.1) (rL ha.2)
   ·exact j5
  ·split
   ·rename_i k g hf;split
    ·rename_i hk;exact zA w (z.mz f k g hf) (o.s.room.mono hk) gl (λE=>(sound n).rx _ S (o.s.wish E) _) n1 (star1 ha.1) (rL ha.2)
    ·exact j5
   ·exact j5
 ·exact j5
theorem s_zcall (w:Own X) (o:TnOk X.nox S) (z:ZOk X.prog X.w X.K X.mg X.base Z) (n:Nat) (e:Expr):PZE X e (lb n S Z e):=by
 unfold lb;split
 ·split
  ·exact IT w o z n
  ·exact j5
 ·exact j5
theorem fT (h:bT e=true):lb n S Z e=noZ:=by
 cases e<;>first|rfl|cases h
theorem Lo (w:Own X) (o:TnOk X.nox S) (z:ZOk X.prog X.w X.K X.mg X.base Z):∀n,(∀st,PZ1 X st (zx n S Z st))/\∀st,PZ X st (zxs n S Z st):=by
 intro n;induction n with
 |zero=>exact⟨λst=>iZ,λst=>Do⟩
 |succ n ih=>
  refine⟨λst=>?_,λst=>?_⟩
  ·unfold zx;split
   ·rename_i a b p;split
    ·rename_i x h;split
     ·rename_i c;rw[and_eq_true]at c;obtain⟨ok,gl⟩:=bc o.s c.1;unfold rsC at h;split at h
      ·cases h;exact zw w o.s.calm (z.cl x c.2) gl (bn ok).1
      ·cases h
     ·exact iZ
    ·exact iZ
   ·exact IS (λE=>(sound n).rq _ S (o.s.wish E) _) (ih.2 _) (ih.2 _)
   ·rename_i e p;cases hc:bT e with
    |true=>rw[fT hc];exact iZ
    |false=>exact BZ (s_zcall w o z n e) (swaps_no hc _ _ _)
   ·exact Fj (s_zcall w o z n _)
   ·rename_i y p e q;split
    ·rename_i i hi;obtain⟨ok,lc,hN⟩:=iX o hi;cases hc:bT e with
     |true=>rw[fT hc];exact iZ
     |false=>exact Fk (s_zcall w o z n e) (by have:=o.s.N;rw[show X.N=S.N from this];exact o.s.nd) hN lc (swaps_no hc _ _ _) (.inl (o.fn y))
    ·exact iZ
   ·exact iZ
  ·unfold zxs;split
   ·exact Do
   ·split
    ·exact vo (ih.1 _)
    ·exact IP (vo (ih.1 _)) (BY ((t9 n).1 _ S o _) (ih.2 _))
end
def rX (n m:Nat) (G:Ev->Option Str) (ds:List D):Option Str:=if ds.length=n then G (az m ds)else none
section
variable {P:Program} {w:World} {K:Frag} {mg:Str->Option Value} {base:Heap}
theorem Lp {st} (Fn:Fun K x qual st f fd) (S:FnScope N ps (aj st)) (hb:∀ (cdv:Value) (A:Around) (outer:List Env) (s:Shared) (H:Hp) (E:XK),Room k (A.deeper (envOfC qual (aj st) s.heap.objs.size f cdv))->PZ (gq (CXE P w) P w K mg base N qual (aj st) f cdv A outer s H E) (aC st) G):
  FnOk P w K mg base (CXE P w) (k+1) f fd ps (spX K (rX ps.length N.length G)):=by
 obtain⟨oc,od,kV,doc,pm,an,cdv,ct,osl,rfl,lk,hcd⟩:=Fn.ex
 refine w6 lk hcd S (λvs H Q E ⟨O,ds,x,_,il,e,_⟩=>?_) λA outer s H vs Q E hr ⟨O,ds,x,hO,il,e,kk⟩=>?_
 ·rw[<-il.len];unfold rX at e;split at e
  ·assumption
  ·cases e
 ·have q:G (az N.length ds)=some x:=by
   unfold rX at e;split at e
   ·exact e
   ·cases e
  refine⟨λEn Y H'=>Y=f9 N vs/\H'=H,λpins s1 Y H' D I ⟨e1,e2⟩=>?_,rfl,rfl⟩;subst e1;subst e2;refine wpAny_mono (hb cdv A outer s H' E hr ⟨H',O⟩ O (az N.length ds) x pins s1 _ _ q I (ji hO il)) (λ_ _ z=>False.elim z) λev s2 z=>?_;obtain⟨a,C,pins',Y',H2,O',U',rfl,I',E',hC,t⟩:=z;exact Ln I' (t.mono λb n=>⟨n.1,n.2.1⟩) (kk C H2 hC E'.same)
theorem zB:Own (gq CX P w K mg base N qual scope f cd A outer s H E):=⟨rfl,rfl,rfl⟩
def dfz (n k:Nat) (N ps:List Str) (st:Stmt) (G:Gb) (Z:Zn):List D->Option Str:=rX ps.length N.length (zxs n (lA N st k G) Z (aC st))
theorem Dp (g:GbOk P w K mg base G) (z:ZOk P w K mg base Z) (KX:K.In h) (hN:h.Ns mainGlobals mg) {st} (n k:Nat) (S:FnScope N ps (aj st)) (b:bF x st ps) (t:ck K x st):Dx P w K mg base x (k+1) (dfz n k N ps st G Z):=by
 obtain⟨f,oc,od,an,osl,kV,doc,pm,cdv,ct,h1,h2,h3,h4⟩:=t;have Fn:=iS (st:=st) h2 h3 h4;refine⟨f,_,ps,PySem.W.mg_of KX hN h1,h4,Fn.binds λkV doc pm an cdv ct us hl=>b x kV doc pm an cdv ct us hl,Lp Fn S λcdv A outer s H E hr=>?_⟩;exact(Lo (X:=gq (CXE P w) P w K mg base N _ (aj st) f cdv A outer s H E) zB (nr g S cdv A outer s H E hr) z n).2 _
end
section
variable {prog:Program} {w:World} {A:Around} {E:Value->Shared->Prop} {h:Heap} {g:Array GenState} {d:Drawn} {t:Nat} {os:OsState} {K:Frag} {a C:Addr} {oe:Obj}
structure XCls (K:Frag) (C:Addr):Prop where
 ga:findIn K (.ref C) "__getattribute__"=some (some (.builtin "BaseException.__getattribute__"))
 gt:findIn K (.ref C) "__getattr__"=some none
 ca:findIn K (.ref C) "__class__"=some (some (.builtin "object.__class__"))
 sb:PySem.W.subIn K (.ref C) (.type "BaseException")=some true
 mo:PySem.W.mroIn K C (.type "object")=some true
 cl:(PySem.W.clsIn K C).isSome=true
theorem zC (X:K.In h) (I:PySem.W.InstAt h a oe C none) (c:XCls K C) (hq:Q (.done (.ret (.ref C))) ⟨h,g,d,t,os⟩):
  wpAny (model prog w) A (Builtin.«object.__getattribute__» ⟨[.ref a,.str "__class__" tk],[]⟩) Q E ⟨h,g,d,t,os⟩:=by
 have L0:=I.type (M:=model prog w)
 have L1:=PySem.W.looks_findIn (M:=model prog w) X c.ca
 have hT5:(⟨h,g,d,t,os⟩:Shared).TypeIs (.builtin "object.__class__") "getset_descriptor":=PySem.F.typeOf_object_class
 have f5:=PySem.F.typeOf_object_class
 have f6:=PySem.F.slot_gs_get.lookup
 have f7:=PySem.F.slot_gs_set.lookup
 repeat (any_goals (first|assumption|with_reducible refine L0.at ?_|with_reducible refine L1.at ?_|wp_step))
 refine PySem.W.class_get X I c.mo ?_
 repeat (any_goals (first|assumption|wp_step))
theorem zD (X:K.In h) (I:PySem.W.InstAt h a oe C none) (c:XCls K C) (hq:Q () ⟨h,g,d,t,os⟩):wpAny (model prog w) A (checkBuiltinCall "BaseException.__getattribute__" ⟨[.ref a,nameV],[]⟩) Q E ⟨h,g,d,t,os⟩:=by
 have kb:builtinKind "BaseException.__getattribute__"=some .slot:=by decide+kernel
 have ks:splitId "BaseException.__getattribute__"=some ("BaseException","__getattribute__"):=by decide+kernel
 have L0:=I.type (M:=model prog w);have L1:=PySem.W.looks_subIn (M:=model prog w) X c.sb;have ha:=PySem.F.args_bexc_ga (.ref a) nameV;simp only[checkBuiltinCall,kb,ks];refine wpAny_bind ?_
 ·unfold isInstance;repeat (first|with_reducible refine L0.at ?_|with_reducible refine L1.at ?_|wp_step)
  exact hq
theorem IU (X:K.In h) (I:PySem.W.InstAt h a oe C none) (c:XCls K C) (hq:Q (.ref C) ⟨h,g,d,t,os⟩):wpAny (model prog w) A (getAttrBy (.ref a) (.str "__class__" tk) false) Q E ⟨h,g,d,t,os⟩:=by
 have L0:=I.type (M:=model prog w);have L1:=PySem.W.looks_findIn (M:=model prog w) X c.ga;have L2:=PySem.W.looks_findIn (M:=model prog w) X c.gt;have f3:=PySem.F.attr_ValueError.ga.bind (.ref a);have b0:(false&&onTheHeap (Value.builtin "BaseException.__getattribute__"))=false:=rfl;have b2:(Value.builtin "BaseException.__getattribute__"==Value.builtin "object.__getattribute__")=false:=by decide+kernel
 have b1:(onTheHeap (Value.ref C)&&Value.builtin "BaseException.__getattribute__"==Value.builtin "object.__getattribute__")=false:=by rw[b2];rfl
 repeat (any_goals (first|assumption|with_reducible refine L0.at ?_|with_reducible refine L1.at ?_|with_reducible refine L2.at ?_|wp_step))
 refine codeAny_call_builtin PySem.F.attr_ValueError.ga.plain PySem.F.entry_bexc_ga (zD X I c (zC X I c ?_));repeat (any_goals (first|assumption|wp_step))
theorem B0 (X:K.In h) (I:PySem.W.InstAt h a oe C none) (c:XCls K C) (hq:Q (some (.ref C)) ⟨h,g,d,t+1,os⟩):wpAny (model prog w) A (getAttr? (.ref a) "__class__") Q E ⟨h,g,d,t,os⟩:=by
 unfold getAttr? getAttrBy?;repeat (any_goals (first|assumption|with_reducible apply IU X I c|wp_step))
end
theorem rY {K:Frag} {a C:Addr} {oe:Obj} (c:XCls K C):PySem.W.KitX K (.ref a) (.ref C) (λh=>PySem.W.InstAt h a oe C none) where
 ty:=λ_ _ _ I=>I.type
 it:=λ_ _ X _=>by
  obtain⟨cd,hc⟩:=Option.isSome_iff_exists.mp c.cl;unfold PySem.W.clsIn at hc;split at hc
  ·rename_i c' d' cd' sl' ho;intro A' Q' E' s' k q;unfold isType loadHead;exact wpAny_bind (wpAny_loadPart (k _ _ (X _ _ ho)) (wpAny_pure q))
  ·cases hc
 ne:=λh tp dd its n sl X htp=>by
  obtain⟨cd,hc⟩:=Option.isSome_iff_exists.mp c.cl;refine Bool.eq_false_iff.mpr λq=>?_;have e:C=tp:=Value.ref.inj (beq_iff_eq.mp q);subst e;unfold PySem.W.clsIn at hc;split at hc
  ·rename_i c' d' cd' sl' ho;have z:=(X _ _ ho).symm.trans htp;cases z
  ·cases hc
 ca:=λ{prog w A E Q s} X I k=>by
  obtain⟨hh,g,d,t,os⟩:=s;exact B0 X I c k
section
variable {X:Cx} {pins:List (Addr×Obj)} {Y:St} {H:Hp} {s:Shared}
theorem B3 (I:Inv X pins Y H s) (hN:X.N.Nodup) (hi:X.N[i]?=some x) (hk:X.env.scope.names.lookup x=some .local) (h:∀s',Inv X pins (Y.set i none) H s'->Q () s'):wpAny M A (do bindName X.env x .none;unbindBehindTheSuite X.env x pos) Q E s:=by
 obtain⟨m,hn,hl⟩:=id I.loc;have hcls:(X.env.scope.kind==.class||(X.env.scope.kind==.module&&X.env.locals !=X.env.globals))=false:=by rw[I.ok.kind];rfl
 have cne:=I.cne;refine wpAny_nameGoes_keeps hk hn hcls λh' v hn' hs=>?_;have lt:∀b o,X.s₀.heap.get? b=some o->b≠X.env.locals:=λb o e=>Nat.ne_of_lt (lt_of_lt_of_le (Heap.lt_size e) I.ok.above);refine h _ ⟨I.ok,I.os,I.bare,⟨λb o e n hb hx=>?_,λb o e n hb hx=>?_,I.base.free,λb o e hx=>?_,I.base.tups,I.base.frzs,I.base.tbls⟩,⟨_,hn',λj y v' e1 e2 e3=>?_⟩,λy c e=>?_,I.free,I.freeC,λp hp=>?_,λb ob e=>?_,by simpa using I.len⟩
 ·exact(hs.2 b (lt b o e)).trans (I.base.keep b o e n hb hx)
 ·obtain⟨sl,e1⟩:=I.base.slot b o e n hb hx;exact⟨sl,(hs.2 b (lt b o e)).trans e1⟩
 ·obtain⟨o',e1⟩:=I.base.there b o e hx;exact⟨o',(hs.2 b (lt b o e)).trans e1⟩
 ·have hj:j≠i:=by
   rintro rfl;by_cases hlt:j<Y.length
   ·rw[List.getElem?_set_self hlt]at e2;cases e2
   ·rw[List.getElem?_eq_none (by simpa using Nat.le_of_not_lt hlt)]at e2;cases e2
  rw[List.getElem?_set_ne (Ne.symm hj)]at e2;obtain⟨u',r',q⟩:=hl j y v' e1 e2 e3;refine⟨u',r',?_⟩;rcases q with⟨k,e⟩|⟨k,c,e,z⟩
  ·refine .inl ⟨k,?_⟩;have:y≠x:=λe=>hj (mr hN e1 (e▸hi));simp[this,e]
  ·exact .inr ⟨k,c,e,z.sameBut hs (cne y c e)⟩
 ·obtain⟨w',z⟩:=I.cell y c e;exact⟨w',z.sameBut hs (cne y c e)⟩
 ·obtain⟨e,n,ne,nf,d⟩:=I.pin p hp;exact⟨(hs.2 p.1 ne).trans e,n,ne,nf,d⟩
 ·refine(I.hok b ob e).stay (λc w' hc q=>(hs.2 c ?_).trans q) (λ_ q=>q) λ_ _ q=>q;rintro rfl;rcases hc with rfl|hc
  ·rw[I.free]at e;cases e
  ·rw[I.free]at hc;cases hc
end
theorem EnvOk.gone {K:Frag} {B:Bs} {O:Addr->Bool} {Y:St} {H:Hp} {U:Ev} (E:EnvOk K B O Y H U) (i:Nat):EnvOk K B O (Y.set i none) H (U.set i none) where
 same:=E.same
 bdom:=E.bdom
 sub:=E.sub
 lis:=E.lis
 len:=by rw[List.length_set,List.length_set];exact E.len
 fp:=by
  obtain⟨F,h1,h2,h3,h4⟩:=E.fp;refine⟨F,λj s q=>?_,h2,h3,h4⟩;have hj:j≠i:=by
   rintro rfl;by_cases hlt:j<U.length
   ·rw[List.getElem?_set_self hlt]at q;cases q
   ·rw[List.getElem?_eq_none (by simpa using Nat.le_of_not_lt hlt)]at q;cases q
  rw[List.getElem?_set_ne (Ne.symm hj)]at q;obtain⟨v,e,o⟩:=h1 j s q;exact⟨v,by rw[List.getElem?_set_ne (Ne.symm hj)];exact e,o⟩
def Cx.hand (X:Cx) (a:Addr) (oe:Obj):Cx:={X with A:=X.A.mark (some (.ref a)),calm:=false,pn:=(a,oe)::X.pn,xe:=λ_ _=>False}
section
variable {X:Cx} {pins:List (Addr×Obj)} {Y:St} {H:Hp} {s:Shared} {a:Addr} {oe:Obj}
theorem Inv.hand (I:Inv X pins Y H s) (w:Own X) (n:NP X pins H a) (e:s.heap.get? a=some oe) (hd:∀v,oe.data≠.cell v):Inv (X.hand a oe) pins Y H s:=by
 have ok:=I.ok;refine⟨⟨ok.mod,ok.kind,ok.glob,ok.blt,ok.above,ok.inj,ok.has,ok.cab,(λz=>by cases z),ok.frames,ok.stk,ok.exf,ok.bs,ok.bsz,ok.noex,ok.exfs,ok.funs,ok.frf⟩,I.os,I.bare,I.base,I.loc,I.cell,I.free,I.freeC,λp hp=>?_,I.hok,I.len⟩;rcases mem_append.mp hp with hp|hp
 ·rcases mem_cons.mp hp with rfl|hp
  ·refine⟨e,n.2.1,n.2.2.1,λz=>n.2.2.2.2.2 ?_,hd⟩;rw[w.stk];unfold frs;rw[List.filterMap_cons,w.fr];exact mem_cons_of_mem _ z
  ·exact I.pin p (mem_append_left _ hp)
 ·exact I.pin p (mem_append_right _ hp)
theorem Inv.unhand (ok:X.Ok) (I:Inv (X.hand a oe) pins Y H s):Inv X pins Y H s:=
 ⟨ok,I.os,I.bare,I.base,I.loc,I.cell,I.free,I.freeC,λp hp=>I.pin p ((mem_append.mp hp).elim (λz=>mem_append_left _ (mem_cons_of_mem _ z)) λz=>mem_append_right _ z),I.hok,I.len⟩
end
def PY (X:Cx) (st:List Stmt) (G:Ev->Option Str):Prop:=∀B O U x pins s Y H,G U=some x->Inv X pins Y H s->EnvOk X.K B O Y H U->
 wpAny (model X.prog X.w) X.A (execs st X.env) (λ_ _=>False) (EX X B O U pins Y H x) s
def HS (X:Cx) (i:Nat) (suite:List Stmt) (a:Addr) (oe:Obj) (Hd:Ev->Option Ev):Prop:=∀ (B:Bs) (O:Addr->Bool) (U U':Ev) (pins:List (Addr×Obj)) (s:Shared) (Y:St) (H:Hp),Hd U=some U'->Inv (X.hand a oe) pins (Y.set i (some (.ref a))) H s->EnvOk X.K B O (Y.set i (some (.ref a))) H (U.set i (some (.sh,.adr a)))->
 wpAny (model X.prog X.w) (X.A.mark (some (.ref a))) (execs suite X.env) (λf s'=>f=.next/\∃Y' H' O' U'',Inv (X.hand a oe) pins Y' H' s'/\EnvOk X.K B O' Y' H' U''/\U''.set i none=U'/\Same (msk O H) (msk O' H')) (λ_ _=>False) s
def wy (F:Ev->Option Out) (G:Ev->Option Str) (Hd:Str->Ev->Option Ev):Ev->Option Out:=λU=>match G U with
 |some x=>(Hd x U).bind λU'=>some (.nx U')
 |none=>(F U).bind λo=>match o with|.nx U'=>some (.nx U')|_=>none
def HB (X:Cx) (hs:List ExceptHandler) (Hd:Str->Ev->Option Ev):Prop:=∀ (x:Str) (B:Bs) (O:Addr->Bool) (U U':Ev) (a C:Addr) (pins:List (Addr×Obj)) (s:Shared) (Y:St) (H:Hp) (Q:Flow->Shared->Prop) (E':Value->Shared->Prop),Hd x U=some U'->nsIn X.K mainGlobals x=some (some (.ref C))->
 Inv X pins Y H s->EnvOk X.K B O Y H U->TrX s.heap (NP X pins H) a (.ref C) .none->(∀Y' H' O' s',Inv X pins Y' H' s'->EnvOk X.K B O' Y' H' U'->Same (msk O H) (msk O' H')->Q .next s')->
 wpAny (model X.prog X.w) X.A (handleBy (.ref a) X.env hs) Q E' s
def hdC (f:Str->Option Bool) (H1 H2:Str->Ev->Option Ev):Str->Ev->Option Ev:=λx=>match f x with
 |some true=>H1 x
 |some false=>H2 x
 |none=>λ_=>none
theorem Fl:HB X [] (λ_ _=>none):=λ_ _ _ _ _ _ _ _ _ _ _ _ _ q=>by cases q
theorem B4 {rest} (w:Own X) (gl:Gl X M) (hm:X.mg M=some (.ref Mc)) (hd:(M==("__debug__":Str))=false) (hN:X.N.Nodup) (hi:X.N[i]?=some n) (hk:X.env.scope.names.lookup n=some .local) (hM:∀x b C,f x=some b->nsIn X.K mainGlobals x=some (some (.ref C))->PySem.W.exmOne X.K (.ref C) (.ref Mc)=some b) (hh:∀x C a oe,f x=some true->nsIn X.K mainGlobals x=some (some (.ref C))->oe.cls=.ref C->oe.dict=none->PySem.W.notCls oe=true->HS X i (b₀::suite) a oe (Hd x)) (hr:HB X rest H2):
   HB X (.ExceptHandler (some (.Name M mp)) (some n) (b₀::suite) hp::rest) (hdC f Hd H2):=by
 intro x B O U U' a C pins s Y H Q E' q hC I E t k
 have t0:=t
 obtain⟨oe,vs,T,oT,ts,he,⟨hc,_⟩,hdt,ne,_⟩:=id t
 have nc:∀v,oe.data≠.cell v:=λv z=>by rw[hdt]at z;cases z
 have I3h:=I.hand w ne he nc
 have LT:PySem.W.Looks (model X.prog X.w) s.heap (typeOf (.ref a)) (.ref C):=hc▸(PySem.W.Looks.ld he).andThen .now
 refine wpAny_handleBy_cons (codeAny_handlers_test (fG (X:=X.hand a oe) I3h gl hm ?_ hd)) (by intro q;cases q)
 have q':(match f x with|some true=>Hd x|some false=>H2 x|none=>λ_=>none) U=some U':=q
 clear q
 cases hf:f x with
 |none=>rw[hf]at q';cases q'
 |some b=>
  rw[hf]at q';have q:=q';cases b with
  |true=>
   obtain⟨h3,g3,d3,tk3,os3⟩:=s;refine(PySem.W.exm_one (M:=model X.prog X.w) I.kIn LT (hM x true C hf hC)).at ?_;refine codeAny_handlers_suite_as ?_;refine qi (S:=frs X.stack) t0 λh4 c4 t4=>?_;have I4:=I.chg w.ex (h':=h4) c4;obtain⟨oe4,vs4,T4,oT4,ts4,he4,⟨hc4,dn4⟩,hdt4,ne4,_⟩:=id t4;have I4h:=I4.hand w ne4 he4 λv z=>by rw[hdt4]at z;cases z
   refine mv (X:=X.hand a oe4) (v:=.ref a) I4h hN hi (.inl hk) rfl (λs5 I5=>?_) (.inr hk);have E5:EnvOk X.K B O (Y.set i (some (.ref a))) H (U.set i (some (.sh,.adr a))):=E.setSh rfl;refine wpAny_mono (hh x C a oe4 hf hC hc4 dn4 (by unfold PySem.W.notCls;rw[hdt4]) B O U U' pins s5 Y H q I5 E5) (λf s6 z=>?_) λ_ _ z=>False.elim z;obtain⟨rfl,Y',H',O',U'',I6,E6,e6,s6'⟩:=z;refine B3 (X:=X) (I6.unhand I.ok) hN hi hk λs7 I7=>?_;subst e6;exact k _ H' O' s7 I7 (E6.gone i) s6'
  |false=>
   obtain⟨h3,g3,d3,tk3,os3⟩:=s;refine(PySem.W.exm_one (M:=model X.prog X.w) I.kIn LT (hM x false C hf hC)).at ?_;exact hr x B O U U' a C pins _ Y H Q E' q hC I E t0 k
theorem Fm (w:Own X) (hF:PRs X.nox body F) (hG:PY X body G) (hb:HB X (h0::hs) Hd):
  PR X (.Try body (h0::hs) [] [] pos) (wy F G Hd):=by
 intro B O U pins s Y H D I ⟨E,out,q,k⟩
 unfold wy at q
 cases hg:G U with
 |none=>
  rw[hg]at q;obtain⟨o,q1,q2⟩:=bind_some q;cases o with
  |nx U'=>
   cases q2;refine wpAny_Try_except (wpAny_mono (hF B O U pins s Y H {nx:=λY' H'=>∃O',Same (msk O H) (msk O' H')/\EnvOk X.K B O' Y' H' U',rt:=λ_ _=>False} (I.wish _) ⟨E,_,q1,λY' H' O' s' E'=>⟨O',s',E'⟩⟩) (λf s1 z=>?_) λ_ _ z=>False.elim z);cases f with
   |next=>
    obtain⟨Y',H',I',O',s',E'⟩:=z;exact wpAny_execs_nil ⟨Y',H',I'.unwish,k Y' H' O' s' E'⟩
   |brk=>obtain⟨_,_,_,z⟩:=z;exact False.elim z
   |cont=>obtain⟨_,_,_,z⟩:=z;exact False.elim z
   |ret u=>obtain⟨_,_,_,_,_,z⟩:=z;exact False.elim z
  |_=>cases q2
 |some x=>
  rw[hg]at q;obtain⟨U',q1,q2⟩:=bind_some q;cases q2;refine wpAny_Try_except (wpAny_mono (hG B O U x pins s Y H hg I E) (λ_ _ z=>False.elim z) λe s1 z=>?_);obtain⟨a,C,H1,rfl,sm,I1,E1,hC,t⟩:=z;have fr:X.A.frames=some (X.env::X.outer):=by rw[I1.ok.frames,w.stk]
  have st:s1.heap.FunFrames X.base (X.env::X.outer):=by rw[<-w.stk];exact I1.stack
  refine Dn fr st w.fr (λb q=>I1.nowh w.ex q) (.inr (.inl t)) λh2 c2 t2=>?_;have I2:=I1.chg w.ex (h':=h2) (by rw[w.stk];exact c2);refine qi (S:=frs X.stack) (s:={s1 with heap:=h2}) t2 λh3 c3 t3=>?_;have I3:=I2.chg w.ex (h':=h3) c3;exact hb x B O U U' a C pins _ Y H1 _ _ q1 hC I3 E1 t3 λY' H' O' s' I' E' s6=>⟨Y',H',I',k Y' H' O' (sm.msk.trans s6) E'⟩
structure XO (X:Cx) (a C:Addr) (oe:Obj):Prop where
 pn:(a,oe)∈X.pn
 cls:oe.cls=.ref C
 dct:oe.dict=none
 nc:PySem.W.notCls oe=true
 xc:XCls X.K C
def wz:V->Option Value
 |.ref a=>some (.ref a)
 |.ty n=>some (.type n)
 |_=>none
theorem rZ (h:wz v=some u) (r:RelV v u'):u'=u:=by
 cases v with
 |ref a=>cases h;exact r
 |ty n=>cases h;exact r
 |_=>cases h
section
variable {X:Cx} {a C:Addr} {oe:Obj}
theorem XO.inst (h:XO X a C oe) {Y:St} (I:Inv X pins Y H s):PySem.W.InstAt s.heap a oe C none:=
 ⟨(I.pin _ (mem_append_left _ h.pn)).1,h.cls,h.nc,by rw[h.dct];trivial⟩
theorem zE (h:XO X a C oe):dU X (.builtin "isinstance") (λxs H Q=>∃c u b,xs=[.ref a,c]/\wz c=some u/\PySem.W.kitOne X.K (.ref C) u=some b/\Q (.bl b) H):=by
 intro pins s Y H xs us Q I r ⟨c,u,b,e,hc,hk,q⟩;subst e;obtain⟨u1,u2,rfl,r1,r2⟩:=uI r;cases(show u1=Value.ref a from r1);obtain rfl:=rZ hc r2;exact PySem.W.kia_one (rY h.xc) I.kIn (h.inst I) hk (λz=>nomatch z) λtk=>⟨.bl b,H,I.tok tk,rfl,q⟩
theorem r0:∀ {vs:List V} {us us':List Value},vs.map wz=us.map some->Vals vs us'->us'=us
 |[],us,_,h,r=>by
  cases r;cases us with
  |nil=>rfl
  |cons _ _=>cases h
 |v::vs,us,_,h,r=>by
  cases r with
  |cons r1 r2=>
   cases us with
   |nil=>cases h
   |cons u us=>
    injection h with h1 h2;rw[rZ h1 r1,r0 h2 r2]
theorem wA (h:XO X a C oe):dU X (.builtin "isinstance") (λxs H Q=>∃tp vs us b,xs=[.ref a,.ref tp]/\H tp=some (.tup vs)/\vs.map wz=us.map some/\PySem.W.kitAny X.K (.ref C) us=some b/\Q (.bl b) H):=by
 intro pins s Y H xs us Q I r ⟨tp,vs,us1,b,e,ht,hc,hk,q⟩;subst e;obtain⟨u1,u2,rfl,r1,r2⟩:=uI r;cases(show u1=Value.ref a from r1);cases(show u2=Value.ref tp from r2);obtain⟨its,rv,⟨o,h1,h2,n,h3⟩,_⟩:=I.tuple (SqT.of ht);obtain⟨oc,od,oda,osl⟩:=o;cases(show oc=_ from h2);cases(show oda=_ from h3);obtain rfl:=r0 hc rv;exact PySem.W.kia_tup (rY h.xc) I.kIn (h.inst I) h1 hk (λz=>nomatch z) λtk=>⟨.bl b,H,I.tok tk,rfl,q⟩
structure TC (X:Cx) (C:Addr) (T:Str->Option Bool):Prop where
 ex:∀c b,T c=some b->∃v u,wz v=some u/\(∀p,PE X (.Name c p) (tC v))/\PySem.W.kitOne X.K (.ref C) u=some b
def B5 (T:Str->Option Bool):List Expr->Option Bool
 |[]=>some false
 |.Name c _::es=>(T c).bind λb=>(B5 T es).bind λd=>some (b||d)
 |_::_=>none
theorem Fo (t:TC X C T):∀ {es:List Expr} {b:Bool},B5 T es=some b->∃vs us,vs.map wz=us.map some/\vs.length=es.length/\PySem.W.kitAny X.K (.ref C) us=some b/\PA X es (λY H Q=>Q vs H):=by
 intro es;induction es with
 |nil=>intro b h;cases h;exact⟨[],[],rfl,rfl,rfl,pa_nil⟩
 |cons e es ih=>
  intro b h;cases e with
  |Name c p=>
   obtain⟨b1,h1,h⟩:=bind_some h;obtain⟨b2,h2,h⟩:=bind_some h;cases h;obtain⟨v,u,e1,e2,e3⟩:=t.ex c b1 h1;obtain⟨vs,us,f1,f2,f3,f4⟩:=ih h2;refine⟨v::vs,u::us,by rw[List.map_cons,List.map_cons,e1,f1],by rw[length_cons,length_cons,f2],?_,(bK (e2 p) f4)⟩;show(match PySem.W.kitOne X.K (.ref C) u with|some true=>some true|some false=>PySem.W.kitAny X.K (.ref C) us|none=>none)=_;rw[e3,f3];cases b1<;>rfl
  |_=>cases h
def IV (T:Str->Option Bool):Expr->Option Bool
 |.Name c _=>T c
 |.Tuple es _ _=>if es.length<100 then B5 T es else none
 |_=>none
def isF (i:Nat) (a:Addr) (b:Bool):Vv->Option D:=λU=>match eJ U i with
 |some (.adr c)=>if c=a then some (.bl b)else none
 |_=>none
theorem Fp (h:XO X a C oe) (t:TC X C T) (hb:IV T c=some b) (hg:Gl X "isinstance") (hm:X.mg "isinstance"=none) (hv:bootBuiltins "isinstance"=some (.builtin "isinstance")) (hN:X.N[i]?=some n) (hvis:Vis X.env.scope n) (hd:(n==("__debug__":Str))=false) (hcd:(n==("__classdict__":Str))=false):PP X (.Call (.Name "isinstance" p) [.Name n pn,c] [] pos) (isF i a b):=λO U=>by
 have key:∀ {Y:St} {H:Hp},VE X.K O Y H U->∀ {d:D},isF i a b U=some d->d=.bl b/\Y[i]?=some (some (.ref a)):=λ{Y H} E {d} q=>by
  unfold isF at q;split at q
  ·rename_i c q1;obtain⟨rfl,q2⟩:=ay q;refine⟨q2.symm,?_⟩;obtain⟨v,e,iv⟩:=E.sh i _ (eU q1);cases(show v=.ref c from iv);exact e
  ·cases q
 cases c with
 |Name cn pc=>
  obtain⟨v,u,e1,e2,e3⟩:=t.ex cn b hb;refine(gr (zE h) hg hm hv (bK (b7 hN hvis hd hcd) (bK (e2 pc) pa_nil))).imp λY H Q ⟨E,d,q,k⟩=>?_;obtain⟨rfl,e⟩:=key E q;exact⟨_,e,v,u,b,rfl,e1,e3,k _ H (Same.refl _) rfl⟩
 |Tuple es x1 pc=>
  have hb':(if es.length<100 then B5 T es else none)=some b:=hb;have hl:es.length<100:=by
   by_cases hl:es.length<100
   ·exact hl
   ·rw[if_neg hl]at hb';cases hb'
  rw[if_pos hl]at hb';have hb:=hb';obtain⟨vs,us,f1,f2,f3,f4⟩:=Fo t hb;refine(gr (wA h) hg hm hv (bK (b7 hN hvis hd hcd) (bK (sU f4) pa_nil))).imp λY H Q ⟨E,d,q,k⟩=>?_;obtain⟨rfl,e⟩:=key E q;refine⟨_,e,by rw[f2];exact Nat.le_trans (Nat.le_of_lt hl) (by decide),λtp htp=>⟨tp,vs,us,b,rfl,upd_same,f1,f3,k _ _ (Same.new htp) rfl⟩⟩
 |_=>cases hb
end
def he (S:Sn) (T:Str->Option Bool) (n:Str) (i:Nat) (a:Addr):Expr->Vv->Option D
 |.Call (.Name f _) [.Name y _,c] [] _=>if f=("isinstance":Str)/\y=n/\glS S f=true/\S.G.no f=true then(match IV T c with|some b=>isF i a b|none=>noV)else noV
 |.Constant (.str x) _ _=>λ_=>some (.str x)
 |.Constant (.bool b) _ _=>λ_=>some (.bl b)
 |.Constant (.int k) _ _=>λ_=>some (.int k)
 |.Constant .none _ _=>λ_=>some .non
 |.Name y _=>match bf S y with|some j=>λU=>eJ U j|none=>noV
 |_=>noV
def hes (S:Sn) (T:Str->Option Bool) (n:Str) (i:Nat) (a:Addr):List Expr->Vv->Option (List D)
 |[]=>λ_=>some []
 |e::es=>if aQ e&&!bT e then aa (λU=>lfO (he S T n i a e U)) (hes S T n i a es)else noV
def B6 (S:Sn) (T:Str->Option Bool) (n:Str) (i:Nat) (a:Addr):Expr->Vv->Option D
 |.List es _=>λU=>(b9 (hes S T n i a es U)).bind λds=>some (.lst ds)
 |e=>λU=>lfO (he S T n i a e U)
def hst (S:Sn) (T:Str->Option Bool) (n:Str) (i:Nat) (a:Addr):Stmt->Ev->Option Out
 |.Assign [.Name y _] e _=>match pf S y with|some j=>if bT e then noO' else aN j (fN (B6 S T n i a e))|none=>noO'
 |.Expr (.Call (.Attribute (.Name y _) m apos) [e] [] cpos) _=>if m=("append":Str)/\aQ e=true/\bT e=false/\(apos.endLine==cpos.line)=true then(match bf S y with|some j=>iB j (fN (B6 S T n i a e))|none=>noO')else noO'
 |_=>noO'
def hss (S:Sn) (T:Str->Option Bool) (n:Str) (i:Nat) (a:Addr):List Stmt->Ev->Option Out
 |[]=>λU=>some (.nx U)
 |s::r=>ah (hst S T n i a s) (hss S T n i a r)
section
variable {X:Cx} {S:Sn} {T:Str->Option Bool} {n:Str} {i:Nat} {a C:Addr} {oe:Obj}
theorem ppc (h:PE σ e (tC v)) (k:∀H,Is σ.K H d v):PP σ e (λ_=>some d):=λO U=>h.imp λY H Q ⟨E,d',q,kk⟩=>by
 cases q;exact kk v H (Same.refl _) (k _)
theorem qk:PP σ e noV:=λO U pins s Y H Q I ⟨_,_,q,_⟩=>by cases q
theorem Lq (o:TnOk X.nox S) (h:XO (X.hand a oe) a C oe) (t:TC (X.hand a oe) C T) (hi:bf S n=some i) (e:Expr):PP (X.hand a oe) e (he S T n i a e):=by
 unfold he;split
 ·rename_i f p y pn c pos;split
  ·rename_i q;obtain⟨rfl,rfl,g1,g2⟩:=q;obtain⟨ok,gl⟩:=bc o.s g1;obtain⟨h1,h2,h3,_⟩:=aT o.s hi;obtain⟨a1,b1⟩:=d6 h1;split
   ·rename_i b hb;exact Fp h t hb gl (o.s.g.no _ g2) (by decide+kernel) h3 h2 a1 b1
   ·exact qk
  ·exact qk
 ·exact ppc pe_str λ_=>rfl
 ·exact ppc pe_bl λ_=>rfl
 ·exact ppc pe_int λ_=>rfl
 ·exact ppc pe_non λ_=>rfl
 ·rename_i y p;split
  ·rename_i j hj;obtain⟨h1,h2,h3,_⟩:=aT o.s hj;obtain⟨a1,b1⟩:=d6 h1;exactλO U=>(b7 (X:=X.hand a oe) h3 h2 a1 b1).imp λY H Q ⟨E,d,q,k⟩=>by
    obtain⟨v,e,iv⟩:=E.sh j d (eU q);exact⟨v,e,k v H (Same.refl _) iv⟩
  ·exact qk
 ·exact qk
theorem Dq (o:TnOk X.nox S) (h:XO (X.hand a oe) a C oe) (t:TC (X.hand a oe) C T) (hi:bf S n=some i) (hc:bT e=false):PFr (X.hand a oe) e (λU=>lfO (he S T n i a e U)):=
 CZ λO U=>PE.pu (Lq o h t hi e O U) hc
theorem Dr (o:TnOk X.nox S) (h:XO (X.hand a oe) a C oe) (t:TC (X.hand a oe) C T) (hi:bf S n=some i):∀es:List Expr,rh (X.hand a oe) es (hes S T n i a es)
 |[]=>uT
 |e::es=>by
  unfold hes;split
  ·rename_i q;rw[and_eq_true]at q;exact frs_cons (Dq o h t hi (by simpa using q.2)) (Dr o h t hi es) (star1 q.1)
  ·exact tW
theorem zF (o:TnOk X.nox S) (h:XO (X.hand a oe) a C oe) (t:TC (X.hand a oe) C T) (hi:bf S n=some i) (hc:bT e=false):PFr (X.hand a oe) e (B6 S T n i a e):=by
 unfold B6;split
 ·exact xU (Dr o h t hi _)
 ·exact Dq o h t hi hc
theorem IW (o:TnOk X.nox S) (h:XO (X.hand a oe) a C oe) (t:TC (X.hand a oe) C T) (hi:bf S n=some i) (st:Stmt):PR (X.hand a oe) st (hst S T n i a st):=by
 unfold hst;split
 ·rename_i y p e q;split
  ·rename_i j hj;split
   ·exact bJ
   ·rename_i hc;have hc:bT e=false:=by simpa using hc
    obtain⟨ok,lc,hN⟩:=iX o hj;exact x0 (X:=X.hand a oe) (by have:=o.s.N;show X.N.Nodup;rw[show X.N=S.N from this];exact o.s.nd) hN lc (rz (zF o h t hi hc)) (.inl (o.fn y)) (.inl (swaps_no hc _ _ _))
  ·exact bJ
 ·rename_i y p m apos e cpos q;split
  ·rename_i c;obtain⟨rfl,c1,c2,c3⟩:=c;split
   ·rename_i j hj;obtain⟨h1,h2,h3,_⟩:=aT o.s hj;obtain⟨a1,b1⟩:=d6 h1;exact im (X:=X.hand a oe) j (rz (zF o h t hi c2)) h3 h2 a1 b1 (star1 c1) c3
   ·exact bJ
  ·exact bJ
 ·exact bJ
theorem Ds (o:TnOk X.nox S) (h:XO (X.hand a oe) a C oe) (t:TC (X.hand a oe) C T) (hi:bf S n=some i):∀st:List Stmt,PRs (X.hand a oe) st (hss S T n i a st)
 |[]=>pV
 |s::r=>l8 (IW o h t hi s) (Ds o h t hi r)
end
def hdX (i:Nat) (R:Addr->Ev->Option Out) (U:Ev):Option Ev:=by
 classical
 exact if h:∃U',∀a,∃U'',R a (U.set i (some (.sh,.adr a)))=some (.nx U'')/\U''.set i none=U' then some h.choose else none
theorem zG (h:hdX i R U=some U') (a:Addr):∃U'',R a (U.set i (some (.sh,.adr a)))=some (.nx U'')/\U''.set i none=U':=by
 unfold hdX at h;split at h
 ·rename_i q;cases h;exact q.choose_spec a
 ·cases h
theorem Fq {R:Addr->Ev->Option Out} {U U':Ev} (h:∀a,∃U'',R a (U.set i (some (.sh,.adr a)))=some (.nx U'')/\U''.set i none=U'):hdX i R U=some U':=by
 have q:∃U',∀a,∃U'',R a (U.set i (some (.sh,.adr a)))=some (.nx U'')/\U''.set i none=U':=⟨U',h⟩;unfold hdX;rw[dif_pos q];obtain⟨r1,e1,e2⟩:=q.choose_spec 0;obtain⟨r2,e3,e4⟩:=h 0;rw[e1]at e3;cases e3;rw[<-e2,e4]
theorem IX (h:PRs (X.hand a oe) suite (R a)):HS X i suite a oe (hdX i R):=by
 intro B O U U' pins s Y H q I E;obtain⟨U'',e1,e2⟩:=zG q a;refine wpAny_mono (h B O _ pins s _ H {nx:=λY' H'=>∃O',Same (msk O H) (msk O' H')/\EnvOk X.K B O' Y' H' U'',rt:=λ_ _=>False} I ⟨E,_,e1,λY' H' O' s' E'=>⟨O',s',E'⟩⟩) (λf s' z=>?_) λ_ _ z=>z;cases f with
 |next=>
  obtain⟨Y',H',I',O',s',E'⟩:=z;exact⟨rfl,Y',H',O',U'',I',E',e2,s'⟩
 |brk=>obtain⟨_,_,_,z⟩:=z;exact False.elim z
 |cont=>obtain⟨_,_,_,z⟩:=z;exact False.elim z
 |ret u=>obtain⟨_,_,_,_,_,z⟩:=z;exact False.elim z
def PY1 (X:Cx) (st:Stmt) (G:Ev->Option Str):Prop:=∀B O U x pins s Y H,G U=some x->Inv X pins Y H s->EnvOk X.K B O Y H U->
 wpAny (model X.prog X.w) X.A (exec st X.env) (λ_ _=>False) (EX X B O U pins Y H x) s
theorem EX.mono (sm:Same H0 H1):EX X B O U pins Y H1 x e s->EX X B O U pins Y H0 x e s:=
 λ⟨a,C,H,h1,h0,h2⟩=>⟨a,C,H,h1,sm.trans h0,h2⟩
section
variable {X:Cx} {st:Stmt} {e c:Expr} {G G':Ev->Option Str} {pos:Pos} {a b:List Stmt}
theorem Dt:PY X a noZ:=λ_ _ _ _ _ _ _ _ q=>by cases q
theorem ql:PY1 X st noZ:=λ_ _ _ _ _ _ _ _ q=>by cases q
theorem Fs (h:PY1 X st G):PY X (st::r) G:=λB O U x pins s Y H q I E=>wpAny_execs_cons (thn (h B O U x pins s Y H q I E) λ_ _ z=>False.elim z)
theorem B7 (h:PZE X e G) (hs:swapsWith e none pos.line X.env=pure false):PY1 X (.Expr e pos) G:=λB O U x pins s Y H q I E=>
 wpAny_Expr_any (thn (h B O U x pins s Y H q I E) λ_ _ z=>False.elim z) I.quiet hs
theorem Ft (h:PZE X e G) (hs:swapsWith e (some (.Name y pos')) pos.line X.env=pure false):PY1 X (.Assign [.Name y pos'] e pos) G:=λB O U x pins s Y H q I E=>
 wpAny_Assign_Name (thn (h B O U x pins s Y H q I E) λ_ _ z=>False.elim z) hs
theorem IY (hc:∀E,PQ (X.wish E) c fc) (ha:PY X a G) (hb:PY X b G'):PY1 X (.If c a b pos) (ifZ fc G G'):=λB O U x pins s Y H q I E=>by
 obtain⟨d,q1,q2⟩:=bind_some q;refine wpAny_If (thn (hc (EX X B O U pins Y H x) noO (vw U) pins s Y H (λd' H1=>d'=d/\Same H H1) (I.wish _) ⟨E.view,d,q1,λH' s'=>⟨rfl,s'⟩⟩) λd' s1 ⟨H1,I1,e1,sm⟩=>?_);subst e1;cases d' with
 |true=>rw[if_pos rfl]at q2;exact wpAny_mono (ha B O U x pins s1 Y H1 q2 I1.unwish (E.grow sm)) (λ_ _ z=>z) λ_ _ z=>z.mono sm
 |false=>rw[if_neg Bool.false_ne_true]at q2;exact wpAny_mono (hb B O U x pins s1 Y H1 q2 I1.unwish (E.grow sm)) (λ_ _ z=>z) λ_ _ z=>z.mono sm
end
mutual
def yx:Nat->Sn->Zn->Stmt->Ev->Option Str
 |0=>λ_ _ _=>noZ
 |n+1=>λS Z st=>match st with
  |.If c a b _=>ifZ (rq n S c) (yxs n S Z a) (yxs n S Z b)
  |.Expr e _=>lb n S Z e
  |.Assign [.Name _ _] e _=>lb n S Z e
  |_=>noZ
def yxs:Nat->Sn->Zn->List Stmt->Ev->Option Str
 |0=>λ_ _ _=>noZ
 |n+1=>λS Z st=>match st with
  |s::_=>yx n S Z s
  |_=>noZ
end
theorem Lr (w:Own X) (o:TnOk X.nox S) (z:ZOk X.prog X.w X.K X.mg X.base Z):∀n,(∀st,PY1 X st (yx n S Z st))/\∀st,PY X st (yxs n S Z st):=by
 intro n;induction n with
 |zero=>exact⟨λst=>ql,λst=>Dt⟩
 |succ n ih=>
  refine⟨λst=>?_,λst=>?_⟩
  ·unfold yx;split
   ·exact IY (λE=>(sound n).rq _ S (o.s.wish E) _) (ih.2 _) (ih.2 _)
   ·rename_i e p;cases hc:bT e with
    |true=>rw[fT hc];exact ql
    |false=>exact B7 (s_zcall w o z n e) (swaps_no hc _ _ _)
   ·rename_i y p e q;cases hc:bT e with
    |true=>rw[fT hc];exact ql
    |false=>exact Ft (s_zcall w o z n e) (swaps_no hc _ _ _)
   ·exact ql
  ·unfold yxs;split
   ·exact Fs (ih.1 _)
   ·exact Dt
theorem B8 {K} (X:K.In base) (hN:base.Ns mainGlobals mg) (e:nsIn K mainGlobals x=some (some (.ref C))) (lk:K.lookup C=some (excClassObj nm qn C N bs bm hdct sn sub ab col dd k0 k1 k2 k3 k5 "ValueError.__new__")) (ok:PySem.W.nsOkIn K N=true) (ni:nsIn K N "__init__"=some none) (tl:PySem.W.tailIn K bmV bm=true):RCls K mg base x:=
 ⟨C,e,PySem.W.mg_of X hN e,bm,N,nm,qn,bs,hdct,sn,sub,ab,col,dd,k0,k1,k2,k3,k5,_,X _ _ lk,.of_isNs (PySem.W.isNs_of_in X ok),PySem.W.nsMap_none_of_in X ok ni,PySem.W.tail_of_in X tl⟩
structure XTab (K:Frag) (mg:Str->Option Value) (tb:Str->Str->Option Bool) (hb:Str->Bool):Prop where
 xc:∀x c b,tb x c=some b->∀C,nsIn K mainGlobals x=some (some (.ref C))->XCls K C
 nm:∀x c b,tb x c=some b->∀C,nsIn K mainGlobals x=some (some (.ref C))->(∃Cc,mg c=some (.ref Cc)/\PySem.W.kitOne K (.ref C) (.ref Cc)=some b)\/(∃T,c≠"__name__"/\mg c=none/\bootBuiltins c=some (.type T)/\PySem.W.kitOne K (.ref C) (.type T)=some b)
 hd:∀M,hb M=true->∃Mc,mg M=some (.ref Mc)/\∀x b C,tb x M=some b->nsIn K mainGlobals x=some (some (.ref C))->PySem.W.exmOne K (.ref C) (.ref Mc)=some b
def tbS (S:Sn) (tb:Str->Str->Option Bool) (x c:Str):Option Bool:=if glS S c then tb x c else none
theorem IZ {X:Cx} (o:TnOk X.nox S) (t:XTab X.K X.mg tb hb) (hC:nsIn X.K mainGlobals x=some (some (.ref C))):TC (X.hand a oe) C (tbS S tb x):=⟨λc b h=>by
 unfold tbS at h;split at h
 ·rename_i g;obtain⟨ok,gl⟩:=bc o.s g;obtain⟨n1,_,_⟩:=bn ok;rcases t.nm x c b h C hC with⟨Cc,h1,h2⟩|⟨T,h1,h2,h3,h4⟩
  ·exact⟨.ref Cc,_,rfl,λp=>uB (X:=X.hand a oe) gl h1 rfl n1,h2⟩
  ·exact⟨.ty T,_,rfl,λp=>uC (X:=X.hand a oe) gl h2 h3 rfl h1 n1,h4⟩
 ·cases h⟩
def hdP:ExceptHandler->Option (Str×Str×Stmt×List Stmt)
 |.ExceptHandler (some (.Name M _)) (some n) (b0::suite) _=>some (M,n,b0,suite)
 |_=>none
def B9 (S:Sn) (tb:Str->Str->Option Bool) (hb:Str->Bool):List ExceptHandler->Str->Ev->Option Ev
 |[]=>λ_ _=>none
 |h::hs=>match hdP h with
  |some (M,n,b0,suite)=>(match bf S n with
   |some i=>if glS S M&&hb M&&decide (S.nm.lookup n=some .local)then hdC (λx=>tb x M) (λx=>hdX i (λa=>hss S (tbS S tb x) n i a (b0::suite))) (B9 S tb hb hs)elseλ_ _=>none
   |none=>λ_ _=>none)
  |none=>λ_ _=>none
def Fu (m:Nat) (S:Sn) (Z:Zn) (tb:Str->Str->Option Bool) (hb:Str->Bool) (st:Stmt):Ev->Option Out:=match st with
 |.Try body (h0::hs) [] [] _=>wy (exs m S body) (yxs m S Z body) (B9 S tb hb (h0::hs))
 |st=>ex m S st
def exY (m:Nat) (S:Sn) (Z:Zn) (tb:Str->Str->Option Bool) (hb:Str->Bool):List Stmt->Ev->Option Out
 |[]=>λU=>some (.nx U)
 |st::r=>ah (Fu m S Z tb hb st) (exY m S Z tb hb r)
section
variable {X:Cx} {S:Sn} {Z:Zn} {tb:Str->Str->Option Bool} {hb:Str->Bool}
theorem zH:HB X hs (λ_ _=>none):=λ_ _ _ _ _ _ _ _ _ _ _ _ _ q=>by cases q
theorem zI (w:Own X) (o:TnOk X.nox S) (t:XTab X.K X.mg tb hb):∀hs:List ExceptHandler,HB X hs (B9 S tb hb hs)
 |[]=>Fl
 |h::hs=>by
  unfold B9;split
  ·rename_i M n b0 suite hp;split
   ·rename_i i hi;split
    ·rename_i c;simp only[and_eq_true,decide_eq_true_eq]at c;obtain⟨⟨c1,c2⟩,c3⟩:=c;obtain⟨ok,gl⟩:=bc o.s c1;obtain⟨h1,h2,h3,_⟩:=aT o.s hi;obtain⟨Mc,hm,hM⟩:=t.hd M c2;unfold hdP at hp;split at hp
     ·cases hp;exact B4 w gl hm (bn ok).1 (by rw[show X.N=S.N from o.s.N];exact o.s.nd) h3 (by have:=o.nm;rw[show X.env.scope.names=S.nm from this];exact c3) (λx b C q hC=>hM x b C q hC)
       (λx C a oe q hC e1 e2 e3=>IX (Ds o ⟨mem_cons_self,e1,e2,e3,t.xc x M true q C hC⟩ (IZ o t hC) hi _)) (zI w o t hs)
     ·cases hp
    ·exact zH
   ·exact zH
  ·exact zH
theorem Fv (w:Own X) (o:TnOk X.nox S) (z:ZOk X.prog X.w X.K X.mg X.base Z) (t:XTab X.K X.mg tb hb) (m:Nat) (st:Stmt):PR X.nox st (Fu m S Z tb hb st):=by
 unfold Fu;split
 ·have w':Own X.nox:=⟨w.ex,w.stk,w.fr⟩;exact Fm (X:=X.nox) w' ((t9 m).2 _ S o _) ((Lr (X:=X.nox) w' o z m).2 _) (zI (X:=X.nox) w' o t _)
 ·exact(t9 m).1 _ S o _
theorem Du (w:Own X) (o:TnOk X.nox S) (z:ZOk X.prog X.w X.K X.mg X.base Z) (t:XTab X.K X.mg tb hb) (m:Nat):∀st:List Stmt,PRs X.nox st (exY m S Z tb hb st)
 |[]=>pV
 |s::r=>l8 (Fv w o z t m s) (Du w o z t m r)
end
section
variable {P:Program} {w:World} {K:Frag} {mg:Str->Option Value} {base:Heap}
def I0 (n k:Nat) (N ps:List Str) (st:Stmt) (G:Gb) (Z:Zn) (tb:Str->Str->Option Bool) (hb:Str->Bool):List D->Option Sl:=aO ps.length N.length (exY n (lA N st k G) Z tb hb (aC st))
theorem Fw (g:GbOk P w K mg base G) (z:ZOk P w K mg base Z) (xt:XTab K mg tb hb) (KX:K.In h) (hN:h.Ns mainGlobals mg) {st} (n k:Nat) (S:FnScope N ps (aj st)) (b:bF x st ps) (t:ck K x st):Df P w K mg base x (k+1) (I0 n k N ps st G Z tb hb):=by
 obtain⟨f,oc,od,an,osl,kV,doc,pm,cdv,ct,h1,h2,h3,h4⟩:=t;have Fn:=iS (st:=st) h2 h3 h4;refine⟨f,_,ps,PySem.W.mg_of KX hN h1,h4,Fn.binds λkV doc pm an cdv ct us hl=>b x kV doc pm an cdv ct us hl,Bt Fn S λcdv A outer s H E hr=>?_⟩;exact Du (X:=gq CX0 P w K mg base N x (aj st) f cdv A outer s H E) zB (nr g S cdv A outer s H E hr) z xt n _
end
def zJ (Z:Zn) (f:Str) (k:Nat) (g:List D->Option Str):Zn:={Z with df:=λx=>if x=f then some (k,g)else Z.df x}
section
variable {P:Program} {w:World} {K:Frag} {mg:Str->Option Value} {base:Heap} {Z:Zn} {f:Str} {k:Nat} {g:List D->Option Str}
theorem ZOk.addf (z:ZOk P w K mg base Z) (h:Dx P w K mg base f k g):ZOk P w K mg base (zJ Z f k g) where
 cl:=z.cl
 df:=λx k' g' e=>by
  have e':(if x=f then some (k,g)else Z.df x)=some (k',g'):=e;split at e'
  ·rename_i q;subst q;cases e';exact h
  ·exact z.df x k' g' e'
 mz:=z.mz
end
def thZ (z:Ev->Option Str) (r:Ev->Option Out) (t:Ev->Option Str):Ev->Option Str:=orO z (sqZ r t)
def isN (o:Option Bool) (i:Nat) (a:Addr):Vv->Option D:=match o with|some b=>isF i a b|none=>noV
def lfE (f:Vv->Option D):Vv->Option D:=λU=>lfO (f U)
def tbX (ns:List Str) (x c:Str):Option Bool:=if x∈ns then(if c=("MillError":Str)\/c=("ValueError":Str)then some true else if c∈ns then some (decide (x=c))else none)else none
theorem Ja {G G':Ev->Option Str} (h:G U=none):orO G G' U=G' U:=by unfold orO;rw[h]
theorem Jb (h:z U=none) (q:r U=some (.nx U')):thZ z r t U=t U':=by
 unfold thZ;rw[Ja h];unfold sqZ;rw[q];rfl
theorem Jc (h:fc (vw U)=some c):ifZ fc G G' U=if c=true then G U else G' U:=by unfold ifZ;rw[h];rfl
theorem Fx (h:G U=some x) (q:Hd x U=some U'):wy F G Hd U=some (.nx U'):=by unfold wy;rw[h];show(Hd x U).bind _=_;rw[q];rfl
theorem Fy (h:f x=some true):hdC f H1 H2 x=H1 x:=by unfold hdC;rw[h]
abbrev zK (q:Str) (params:Arguments) (body:Expr) (scope:Scope) (cl:List (Str×Addr)) (pm:Value) (c':Addr) (ctv:Value):FuncData:=PySem.W.kla_fn "<lambda>" q params body scope cl pm (.ref c') ctv
abbrev cL (q:Str) (params:Arguments) (body:Expr) (scope:Scope) (cl:List (Str×Addr)) (pm:Value) (c':Addr) (ctv:Value):Obj:=PySem.W.kla_obj "<lambda>" q params body scope cl pm c' ctv
def cxL (X:Cx) (A:Around) (N:List Str) (env:Env) (s:Shared) (H:Hp):Cx:=
 {X with A:=A.deeper env,N:=N,s₀:=s,H₀:=H,env:=env,outer:=X.stack,stack:=env::X.stack,ex:=[],fn:=λ_=>false,calm:=true,pn:=[],xe:=λ_ _=>False}
structure LamSc (scope:Scope) (x y:Str):Prop where
 xl:scope.names.lookup x=some .local
 yf:scope.names.lookup y=some .free
 only:∀z,scope.names.lookup z=some .free->z=y
 nocell:∀z∈scope.names,z.2≠.cell
 kind:scope.kind=.function
 co:scope.isCoroutine=false
 gen:scope.isGenerator=false
 ne:x≠y
section
variable {X:Cx} {pins:List (Addr×Obj)} {Y:St} {H:Hp} {s:Shared}
theorem Cd (I:Inv X pins Y H s) (hA:A.frames=some X.stack) (hh:A.handled=none) (S:LamSc scope x y) (hc:X.env.cells.lookup y=some c) (hcell:s.heap.IsCell c (some w)) (rw':RelV v w) (rl:RelV l u) (hns:h₁.Ns s.heap.objs.size (λz=>[(x,u)].reverse.lookup z)) (hk₁:∀b o,s.heap.get? b=some o->h₁.get? b=some o):
  Inv (cxL X A [x,y] (PySem.W.envX q scope s.heap.objs.size f (.ref c') [(y,c)]) s H) [] [some l,some v] H {s with heap:=h₁,toks:=tk}:=by
 have cl:∀z d,([(y,c)]:List (Str×Addr)).lookup z=some d->z=y/\d=c:=λz d h=>by
  rw[List.lookup_cons]at h;split at h
  ·rename_i e;exact⟨by simpa using e,(Option.some.inj h).symm⟩
  ·cases h
 have cy:([(y,c)]:List (Str×Addr)).lookup y=some c:=by simp[List.lookup_cons]
 have cell1:h₁.IsCell c (some w):=by
  obtain⟨o,ho,hd⟩:=hcell;exact⟨o,hk₁ _ _ ho,hd⟩
 refine⟨⟨I.ok.mod,S.kind,rfl,rfl,le_refl _,λa b d h1 h2=>?_,λa ha=>?_,λa d ha=>?_,λ_=>hh,Around.frames_deeper hA,.inr ⟨rfl,rfl⟩,λb z=>(nomatch z),I.bs,Nat.le_trans I.ok.bsz I.sz,λb _ _ z=>(nomatch z),λb z=>(nomatch z),I.stack,⟨I.stkFree,I.tab⟩⟩,
  rfl,I.bare,Un.kept hk₁,⟨_,hns,λi z v' h1 h2 h3=>?_⟩,λa d h=>?_,I.hok.fresh (le_refl _),λa d h=>?_,λp hp=>(nomatch hp),I.hok.kept hk₁,rfl⟩
 ·rw[(cl a d h1).1,(cl b d h2).1]
 ·have ha':scope.names.lookup a=some .cell\/scope.names.lookup a=some .free:=ha;rcases ha' with z|z
  ·exact absurd rfl (S.nocell _ (PySem.mem_of_lookup z))
  ·rw[S.only a z];exact⟨c,cy⟩
 ·cases ha
 ·match i,h1,h2 with
  |0,h1,h2=>
   cases h1;cases h2;exact⟨u,rl,.inl ⟨S.xl,by simp[List.lookup_cons]⟩⟩
  |1,h1,h2=>
   cases h1;cases h2;exact⟨w,rw',.inr ⟨.inr S.yf,c,cy,cell1⟩⟩
  |n+2,h1,h2=>cases h1
 ·obtain⟨rfl,rfl⟩:=cl a d h;exact⟨_,cell1⟩
 ·obtain⟨rfl,rfl⟩:=cl a d h;exact I.freeC _ _ hc
theorem Ce (I:Inv X pins Y H s) (hA:A.frames=some X.stack) (hh:A.handled=none) (hroom:A.depth<recursionLimit) (S:LamSc scope x y) (hf:s.heap.get? f=some (cL q params body scope [(y,c)] pm c' ctv)) (hcd:s.heap.CodeRec (.ref c') q) (hb:bindArgs (zK q params body scope [(y,c)] pm c' ctv) ⟨[u],[]⟩=pure [(x,u)]) (hc:X.env.cells.lookup y=some c) (hcell:s.heap.IsCell c (some w)) (rw':RelV v w) (rl:RelV l u) (hbody:PE (cxL X A [x,y] (PySem.W.envX q scope s.heap.objs.size f (.ref c') [(y,c)]) s H) body t) (ht:t [some l,some v] H Q):
  wpAny (model X.prog X.w) A (call (.ref f) [u]) (EP X pins Y Q) (λ_ _=>False) s:=by
 refine wpAny_call ?_
 refine PySem.W.kla_callFunE hroom hf rfl S.co S.gen rfl hcd ?_
 rw[hb]
 refine wpAny_pure (wpAny_newFunctionEnv S.nocell (λz hz=>by rw[mem_singleton.mp hz];exact S.xl) (λh₁ hns hsb=>⟨I.nolimit.fresh _ hsb,?_⟩) S.kind)
 show codeAny _ _ (.expr body (PySem.W.envX q scope s.heap.objs.size f (.ref c') [(y,c)])) _ _
 have hk₁:∀b o,s.heap.get? b=some o->h₁.get? b=some o:=λb o e=>hsb.extBut b o (Nat.ne_of_lt (Heap.lt_size e)) (Heap.get?_push_of_some _ e)
 have J:=Cd (q:=q) (c':=c') (f:=f) (tk:=s.toks+[(x,u)].length) I hA hh S hc hcell rw' rl hns hk₁
 refine PySem.W.kla_codeExpr (wpAny_mono (hbody [] _ _ H Q J ht) (λr s' hs=>?_) λe s' hF=>hF.elim)
 obtain⟨v',H',J',rv,q⟩:=hs
 exact⟨v',H',I.call' (ch:=[]) J'.os J'.base J'.hok J'.bare (λ_ z=>nomatch z),rv,q⟩
theorem zL (I:Inv X pins Y H s) (hP:H P=some (.cod #[] pos q)) (hcode:X.env.code=.ref c0) (hC:∀h:Heap,X.K.In h->PySem.W.CodeHd h c0 P) (hB:∀h:Heap,X.K.In h->h.BuiltinsAt X.mg P) (hgP:mainGlobals≠P) (hcl:closureFor scope X.env=pure clos) (k:∀f c' ctv s' H',Inv X pins Y H' s'->Same H H'->s'.heap.get? f=some (cL q params body scope clos ((X.mg "__name__").getD .none) c' ctv)->H' f=some (.frz (cL q params body scope clos ((X.mg "__name__").getD .none) c' ctv) (.own f))->(∃oc vs t,H' c'=some (.frz oc (.own P))/\oc.data=.fields vs/\vs[1]?=some (.str q t))->Q (.ref f) s'):
  wpAny (model X.prog X.w) A (makeFunction "<lambda>" q params (.expr body) scope X.env [] [] [] pos fl) Q E s:=by
 have hg:s.heap.Ns mainGlobals X.mg:=I.ok.mod.glob.keeps I.bk
 rcases I.hok P _ hP with hp|⟨c',oc,vs,t,hp,ho,hrec⟩
 ·refine PySem.W.kla_makeFunction hcl I.ok.glob hg hcode (hC _ I.kIn) hp True.intro rfl hgP (hB _ I.kIn) λc' ctv h' tk hx hge hlt hrec htb=>?_;obtain⟨c2,oc,vs,t,z2,goc,hvs,hv1⟩:=hrec;cases z2;have hcn:H c'=none:=I.hok.fresh hge;have hfs:s.heap.objs.size<=h'.objs.size:=Nat.le_trans hge (Nat.le_of_lt hlt);have hfn:H h'.objs.size=none:=I.hok.fresh hfs;have hfc:h'.objs.size≠c':=Nat.ne_of_gt hlt;have hPc:P≠c':=ak hP hcn;have hPf:P≠h'.objs.size:=ak hP hfn;have up:∀b o,H b=some o->upd (upd H c' (.frz oc (.own P))) h'.objs.size (.frz (cL q params body scope clos ((X.mg "__name__").getD .none) c' ctv) (.own h'.objs.size)) b=some o:=λb o e=>by
   rw[ag (ak e hfn),ag (ak e hcn)];exact e
  have kp:∀b o,b≠P->s.heap.get? b=some o->(h'.push (cL q params body scope clos ((X.mg "__name__").getD .none) c' ctv)).get? b=some o:=λb o hb e=>Heap.get?_push_of_some _ (hx b o hb e);have nP:∀b,H b=none->b≠P:=λb n z=>by rw[z,hP]at n;cases n
  have lt:∀b o,s.heap.get? b=some o->b≠c'/\b≠h'.objs.size:=λb o e=>⟨Nat.ne_of_lt (lt_of_lt_of_le (Heap.lt_size e) hge),Nat.ne_of_lt (lt_of_lt_of_le (Heap.lt_size e) hfs)⟩;have gf:(h'.push (cL q params body scope clos ((X.mg "__name__").getD .none) c' ctv)).get? h'.objs.size=some (cL q params body scope clos ((X.mg "__name__").getD .none) c' ctv):=Heap.get?_push_size _ rfl;have gc:(h'.push (cL q params body scope clos ((X.mg "__name__").getD .none) c' ctv)).get? c'=some oc:=Heap.get?_push_of_some _ goc;have hc':upd (upd H c' (.frz oc (.own P))) h'.objs.size (.frz (cL q params body scope clos ((X.mg "__name__").getD .none) c' ctv) (.own h'.objs.size)) c'=some (.frz oc (.own P)):=by rw[ag (Ne.symm hfc),upd_same]
  refine k h'.objs.size c' ctv _ (upd (upd H c' (.frz oc (.own P))) h'.objs.size (.frz (cL q params body scope clos ((X.mg "__name__").getD .none) c' ctv) (.own h'.objs.size))) (I.un (t':=tk) ⟨λb o e n _ _=>kp b o (nP b n) e,λb o e n _ _=>⟨o.slots,kp b o (nP b n) e⟩,λb o e n _=>?_,λb o e _=>?_,λb xs e=>up _ _ e,λb o u e=>up _ _ e,λb ps e=>⟨#[],by rw[up _ _ e];simp⟩⟩ ?_) (λb o e=>up b o e) gf upd_same ⟨oc,vs,t,hc',hvs,hv1⟩
  ·rw[ag (lt b o e).2,ag (lt b o e).1];exact n
  ·by_cases hb:b=P
   ·subst hb;exact⟨_,Heap.get?_push_of_some _ htb⟩
   ·exact⟨o,kp b o hb e⟩
  ·intro b o e;by_cases hbf:b=h'.objs.size
   ·subst hbf;rw[upd_same]at e;cases e;exact⟨gf,_,gf⟩
   ·rw[ag hbf]at e;by_cases hbc:b=c'
    ·subst hbc;rw[upd_same]at e;cases e;exact⟨gc,_,gc⟩
    ·rw[ag hbc]at e;by_cases hbP:b=P
     ·subst hbP;rw[hP]at e;cases e;exact .inr ⟨c',oc,vs,t,Heap.get?_push_of_some _ htb,hc',hvs,hv1⟩
     ·refine(I.hok b o e).stay (λd v hd q=>kp d v ?_ q) (λd q=>up _ _ q) (λd xs q=>up _ _ q) λd o' u' q=>up _ _ q;rcases hd with rfl|hd
      ·exact hbP
      ·intro z;rw[z,hP]at hd;cases hd
 ·have hf:codeAmong pos (#[]++#[rawInt pos.line,rawInt pos.col,.ref c']:Array Value).toList=some (.ref c'):=codeAmong_snoc [] True.intro rfl;refine PySem.W.kla_makeFunctionHit hcl I.ok.glob hg hcode (hC _ I.kIn) hp True.intro hf (hB _ I.kIn) λctv h' tk hk hsz=>?_;have hfn:H h'.objs.size=none:=I.hok.fresh hsz;have gf:(h'.push (cL q params body scope clos ((X.mg "__name__").getD .none) c' ctv)).get? h'.objs.size=some (cL q params body scope clos ((X.mg "__name__").getD .none) c' ctv):=Heap.get?_push_size _ rfl;exact k h'.objs.size c' ctv _ _ (I.laid (t':=tk) (o:=.frz (cL q params body scope clos ((X.mg "__name__").getD .none) c' ctv) (.own h'.objs.size)) (λb o e=>Heap.get?_push_of_some _ (hk b o e)) hsz ⟨gf,_,gf⟩) (λb o e=>by rw[ag (ak e hfn)];exact e) gf upd_same
   ⟨oc,vs,t,by rw[ag (ak ho hfn)];exact ho,hrec⟩
end
theorem Inv.adopt {Y:St} (I:Inv X pins Y H s) (hn:H a=none) (ha:X.s₀.heap.objs.size<=a) (hL:a≠X.env.locals) (hc:∀x c,X.env.cells.lookup x=some c->c≠a) (hp:∀p∈X.pn++pins,p.1≠a) (new:ObjOk X.prog X.w (upd H a o) s.heap a o):Inv X pins Y (upd H a o) s:=
 ⟨I.ok,I.os,I.bare,⟨I.base.keep,I.base.slot,λb ob e n hx=>by rw[ag (Nat.ne_of_lt (lt_of_lt_of_le (Heap.lt_size e) ha))];exact I.base.free b ob e n hx,I.base.there,
   λb xs e=>by have q:=I.base.tups b xs e;rw[ag (ak q hn)];exact q,λb ob u e=>by have q:=I.base.frzs b ob u e;rw[ag (ak q hn)];exact q,
   λb ps e=>by obtain⟨m,q⟩:=I.base.tbls b ps e;exact⟨m,by rw[ag (ak q hn)];exact q⟩⟩,
  I.loc,I.cell,by rw[ag (Ne.symm hL)];exact I.free,λx c e=>by rw[ag (hc x c e)];exact I.freeC x c e,λp q=>by obtain⟨z1,z2,z3⟩:=I.pin p q;exact⟨z1,by rw[ag (hp p q)];exact z2,z3⟩,I.hok.adopt hn new,I.len⟩
def Cf (a:Addr):Addr->Bool:=λb=>decide (b=a)
theorem j6 (a:Addr):Cf a a=true:=decide_eq_true rfl
section
variable {X:Cx} {pins:List (Addr×Obj)} {Y:St} {H:Hp} {s:Shared}
def r6 (X:Cx) (Y:St) (H:Hp) (A:Around) (f:Value) (xs:List V) (kds:List D):Prop:=
 ∀ (i:Nat) (x:V) (u:Value),xs[i]?=some x->RelV x u->∀ (O:Addr->Bool) (pins:List (Addr×Obj)) (s:Shared) (H':Hp),Inv X pins Y H' s->(∀b,O b=true->Hid (H' b))->Same H (msk O H')->
  wpAny (model X.prog X.w) A (call f [u]) (EP X pins Y λv H2=>Same H' H2/\Is X.K (msk O H2) (kds.getD i .non) v) (λ_ _=>False) s
def qm (X:Cx) (Y:St) (pins:List (Addr×Obj)) (H:Hp) (kS:Addr) (kds:List D) (i:Nat) (s:Shared):Prop:=
 ∃H' kvs,Inv X pins Y H' s/\H' kS=some (.lst kvs)/\Same H (msk (Cf kS) H')/\IsL X.K (msk (Cf kS) H') (kds.take i) kvs
theorem Cg {H':Hp} (h:H' kS=some (.lst kvs)):∀b,Cf kS b=true->Hid (H' b):=λb hb=>by
 rw[of_decide_eq_true hb,h];exact .inl ⟨_,rfl⟩
theorem zM {C:Except Value Value->Sem (ForInStep PUnit)} (T:r6 X Y H A f xs kds) (hx:xs[i]?=some x) (ru:RelV x u) (hlen:kds.length=xs.length) (h64:xs.length<64) (hk:qm X Y pins H kS kds i s) (hC:∀v,C (.ok v)=(do Builtin.List.listUpdate (.ref kS) (·.push v);pure (.yield ⟨⟩))):
  wpAny (model X.prog X.w) A ((call f [u]).attempt>>=C) (λr s'=>r=.yield ⟨⟩/\qm X Y pins H kS kds (i+1) s') E s:=by
 obtain⟨H1,kvs,I,hkS,hs,il⟩:=hk
 have hi:i<xs.length:=(List.getElem?_eq_some_iff.mp hx).1
 refine wpAny_bind (wpAny_attempt (wpAny_mono (T i x u hx ru _ pins s H1 I (Cg hkS) hs) (λr s' h=>?_) λ_ _ z=>z.elim))
 obtain⟨v,H2,I2,rv,s12,iv⟩:=h
 rw[hC]
 have hkS2:=s12 _ _ hkS
 obtain⟨hz,its,n,r1,hl,e⟩:=I2.lstM hkS2
 have hkl:=il.len
 rw[List.length_take]at hkl
 have hsz:its.length<64:=by omega
 have h64':(64:Nat)<=sizeLine:=by decide
 refine wpAny_bind (listUpdate_at e rfl ?_ (by rw[size_toArray];omega) (by rw[Array.size_push,size_toArray];omega))
 have I3:=I2.lset (ys:=kvs++[v]) (its':=its++[r]) (t':=s'.toks) (f:=λz=>z.push r) hkS2 e (by simp) (Vals.append r1 (.cons rv .nil)) (by rw[length_append];show _+1<=_;omega)
 refine wpAny_pure ⟨rfl,_,_,I3,upd_same,?_,?_⟩
 ·rw[fK (j6 kS)];exact hs.trans s12.msk
 ·rw[fK (j6 kS)];have ht:kds.take (i+1)=kds.take i++[kds.getD i .non]:=by
   rw[List.take_add_one];have:kds[i]?=some (kds.getD i .non):=by
    rw[List.getD_eq_getElem?_getD,getElem?_eq_getElem (by omega)];rfl
   rw[this];rfl
  rw[ht];exact(IsL.mono s12.msk _ _ il).app ⟨v,[],rfl,iv,rfl⟩
def plcK (kds:List D):List Nat:=if kds.length<2 then List.range kds.length else(kRun (tT λi=>flt (kds.getD i .non)) (PySem.W.kas_sort kds.length)).toList
theorem fB (kds:List D):(plcK kds).Perm (List.range kds.length):=by
 unfold plcK;split
 ·exact .refl _
 ·exact(iH _ (by omega)).1
theorem r9 (kds:List D):(plcK kds).Pairwise (λa b=>HT.lexLt (flt (kds.getD b .non)) (flt (kds.getD a .non))=false):=by
 unfold plcK;split
 ·rename_i h;match e:kds.length,h with
  |0,_=>exact .nil
  |1,_=>exact List.pairwise_singleton _ _
 ·exact(iH _ (by omega)).2
theorem Ch {st} (I:Inv X ((a,seqObj "list" #[] e1)::pins) Y H2 s) (hkS:H2 kS=some (.lst kvs)) (hk64:kvs.length<64) (hfl:failedOf st=none) (har:(arrOf st).map (·.2)=its.toArray) (rv:Vals ys its) (h64:its.length<64) (ha:X.s₀.heap.objs.size<=a) (hc:∀x c,X.env.cells.lookup x=some c->c≠a) (hpp:∀p∈X.pn++pins,p.1≠a) (h:∀s',Inv X pins Y (upd (upd H2 kS (.lst [])) a (.lst ys)) s'->upd H2 kS (.lst []) a=none->P (.done (.ret .none)) s'):wpAny (model X.prog X.w) A (ksk_tail a false e1 (.ref kS) st) P E s:=by
 have h64':(64:Nat)<=sizeLine:=by decide
 have hpin:=I.pin (a,seqObj "list" #[] e1) (mem_append_right _ (.head _));have hak:a≠kS:=λz=>by have q:=hpin.2.1;dsimp only at q;rw[z,hkS]at q;cases q
 obtain⟨_,kts,n,r1,hl,e⟩:=I.lstM hkS;unfold ksk_tail;dsimp only;refine wpAny_bind (listUpdate_at e rfl ?_ (by rw[size_toArray];omega) (Nat.zero_le _));have I3:=I.lset (ys:=[]) (its':=[]) (t':=s.toks) (f:=λ_=>(#[]:Array Value)) hkS e rfl .nil (Nat.zero_le _);have hp3:=I3.pin (a,seqObj "list" #[] e1) (mem_append_right _ (.head _));refine wpAny_bind (wpAny_letGo ?_);refine wpAny_bind (seqEpoch_at hp3.1 rfl ?_);refine wpAny_bind (listUpdate_at hp3.1 rfl ?_ (Nat.zero_le _) ?_)
 ·rw[hfl];simp only[bne_self_eq_false,Bool.false_eq_true,if_false];refine wpAny_pure (h _ ?_ hp3.2.1);have I4:Inv X pins Y (upd H2 kS (.lst [])) {s with heap:=s.heap.update kS (Obj.mapSeq λ_=>(#[]:Array Value)),toks:=s.toks}:=I3.pins_of λp hp=>I3.pin p (mem_append_right _ (mem_cons_of_mem _ hp));obtain⟨c2,hc2⟩:∃c2,((s.heap.update kS (Obj.mapSeq λ_=>(#[]:Array Value))).update a (Obj.mapSeq λ_=>(arrOf st).map (·.2))).get? a=some (seqObj "list" ((arrOf st).map (·.2)) c2):=⟨_,get?_update_seq hp3.1 λ_=>(arrOf st).map (·.2)⟩;have I5:=I4.turned (t':=s.toks) (it:=a) (h':=(s.heap.update kS (Obj.mapSeq λ_=>(#[]:Array Value))).update a (Obj.mapSeq λ_=>(arrOf st).map (·.2))) (λb o hb q=>by rw[Heap.get?_update_ne _ _ _ _ hb];exact q) hp3.2.1 hp3.2.2.1 (.inr ha) hc hpp;refine I5.adopt hp3.2.1 ha hp3.2.2.1 hc hpp ⟨by rw[rv.length];omega,its,c2,rv,?_⟩;exact hc2.trans (by rw[har])
 ·show((arrOf st).map (·.2)).size<=_;rw[har,size_toArray];omega
theorem Fz (hk:qm X Y ((a,seqObj "list" #[] e1)::pins) H kS kds kds.length s) (hu:A.units+1<cLine) (hs:iW kds) (hlen:kds.length=xs.length) (rv:Vals xs its) (h64:xs.length<64) (ha:X.s₀.heap.objs.size<=a) (hc:∀x c,X.env.cells.lookup x=some c->c≠a) (hpp:∀p∈X.pn++pins,p.1≠a) (h:∀s' H',Inv X pins Y (upd H' a (.lst ((plcK kds).map λi=>xs.getD i .non))) s'->H' a=none->Same H H'->P (.done (.ret .none)) s'):
  wpAny (model X.prog X.w) A (do let keys<-Builtin.List.listItems (.ref kS);ksk_end a false its.toArray e1 (.ref kS) keys) P E s:=by
 obtain⟨H2,kvs,I,hkS,hsm,il⟩:=hk
 rw[List.take_length]at il
 have hkl:=il.len
 have hil:=rv.length
 obtain⟨hz,kts,n,r1,hl,e⟩:=I.lstM hkS
 have hlt:∀i∈plcK kds,i<kds.length:=λi hi=>List.mem_range.mp ((fB kds).mem_iff.mp hi)
 have vv:Vals ((plcK kds).map λi=>xs.getD i .non) ((plcK kds).map λi=>its.getD i .none):=gM rv .non .none (λi hi=>by have:=hlt i hi;omega)
 have ln:((plcK kds).map λi=>its.getD i Value.none).length<64:=by rw[length_map,(fB kds).length_eq,length_range];omega
 have sm:Same H (upd H2 kS (.lst [])):=λb o q=>by
  have q':=aD (hsm b o q);rw[ag (λz=>by rw[z]at q';rw[j6]at q';cases q'.1)];exact q'.2
 have fin:∀st:SortSt,failedOf st=none->(arrOf st).map (·.2)=((plcK kds).map λi=>its.getD i Value.none).toArray->wpAny (model X.prog X.w) A (ksk_tail a false e1 (.ref kS) st) P E s:=λst hf har=>
  Ch I hkS (by omega) hf har vv ln ha hc hpp λs' I' hn=>h s' _ I' hn sm
 refine wpAny_bind (listItems_at e rfl ?_)
 unfold ksk_end
 simp only[Bool.false_eq_true,if_false]
 by_cases h2:its.toArray.size<2
 ·rw[if_pos h2,if_pos h2];refine wpAny_bind (wpAny_pure ?_);rw[StateT.run_pure];refine wpAny_bind (wpAny_pure ?_);rw[size_toArray]at h2;refine fin (SortSt.mk' general' (kts.toArray.zip its.toArray) #[] 7 none) rfl ?_;have ep:plcK kds=List.range kds.length:=if_pos (by omega);rw[ep,show kds.length=its.length by omega,gL];show(kts.toArray.zip its.toArray).map (·.2)=its.toArray;apply Array.toList_inj.mp;simp only[Array.toList_map,Array.toList_zip];exact List.map_snd_zip (by omega)
 ·rw[if_neg h2,if_neg h2];rw[size_toArray]at h2;obtain⟨sh,hne,hs'⟩:=hs;have B:=BI (A:=A) I hu il.full r1 hne hs' (le_refl s.heap.objs.size) s.heap (λ_ _ q=>q);refine wpAny_bind (wpAny_mono (B.kd s.heap (λ_ _ _ q=>q) (by omega) (λκ' s'=>κ'=tuples' (kindT sh)/\s'=s) ⟨rfl,rfl⟩) ?_ λ_ _ z=>z.elim);rintro κ' s1 ⟨z1,z2⟩;rw[z1,z2];refine wpAny_bind (wpAny_mono (PySem.W.kat_run (E:=E) (ks:=kts) (vs:=its) (κ:=tuples' (kindT sh)) (Q:=λst' s'=>((arrOf st').map (·.2)=((plcK kds).map λi=>its.getD i Value.none).toArray/\failedOf st'=none)/\s'=s) (by omega) (by omega) (by omega)
   (G:=λp s'=>p=kRun (tT λi=>flt (kds.getD i .non)) (PySem.W.kas_sort its.length)/\s'=s) (λp st' s' a1 a2 a3 a4=>⟨⟨?_,a3⟩,a4.2⟩) (vb (λi j C hi hj z=>B.cp s.heap (λ_ _ _ q=>q) i j (by omega) (by omega) C z) _ (u9 (by omega)) ⟨rfl,rfl⟩)) ?_ λ_ _ z=>z)
  ·rw[PySem.W.kat_snds (by omega) a2,a4.1];have ep:plcK kds=(kRun (tT λi=>flt (kds.getD i .non)) (PySem.W.kas_sort kds.length)).toList:=if_neg (by omega);rw[ep,show kds.length=its.length by omega]
  ·rintro⟨⟨⟩,st'⟩ s2 ⟨⟨z3,z4⟩,z5⟩;dsimp only;rw[z5];exact fin st' z4 z3
end
section
variable {X:Cx} {pins:List (Addr×Obj)} {Y:St} {H:Hp} {s:Shared}
theorem Ci (I:Inv X pins Y H s) (hu:A.units+1<cLine) {h2:Heap} (ho:h2.get? a=some (seqObj "list" its.toArray m)) (kp:∀b o,s.heap.get? b=some o->h2.get? b=some o) (ha:s.heap.objs.size<=a) (T:r6 X Y H A (.ref f) xs kds) (hs:iW kds) (hlen:kds.length=xs.length) (rv:Vals xs its) (h64:xs.length<64) (h:∀s' H',Inv X pins Y (upd H' a (.lst ((plcK kds).map λi=>xs.getD i .non))) s'->H' a=none->Same H H'->P (.done (.ret .none)) s'):wpAny (model X.prog X.w) A (ksk_tree a (.ref f) false) P E {s with heap:=h2}:=by
 have hil:=rv.length;have h64':(64:Nat)<=sizeLine:=by decide
 have lt:a<h2.objs.size:=Heap.lt_size ho;obtain⟨e1,ho1⟩:∃e1,(h2.update a (Obj.mapSeq λ_=>(#[]:Array Value))).get? a=some (seqObj "list" #[] e1):=⟨_,get?_update_seq ho λ_=>#[]⟩;have hkS:((h2.update a (Obj.mapSeq λ_=>(#[]:Array Value))).push (seqObj "tuple" its.toArray 0)).objs.size=h2.objs.size+1:=by rw[size_push',Heap.size_update]
 have hne:∀b o,s.heap.get? b=some o->b≠a:=λb o e=>Nat.ne_of_lt (lt_of_lt_of_le (Heap.lt_size e) ha);have kp5:∀b o,s.heap.get? b=some o->(((h2.update a (Obj.mapSeq λ_=>(#[]:Array Value))).push (seqObj "tuple" its.toArray 0)).push (seqObj "list" #[] 0)).get? b=some o:=λb o e=>
  Heap.get?_push_of_some _ (Heap.get?_push_of_some _ (by rw[Heap.get?_update_ne _ _ _ _ (hne b o e)];exact kp b o e))
 have ho5:(((h2.update a (Obj.mapSeq λ_=>(#[]:Array Value))).push (seqObj "tuple" its.toArray 0)).push (seqObj "list" #[] 0)).get? a=some (seqObj "list" #[] e1):=Heap.get?_push_of_some _ (Heap.get?_push_of_some _ ho1);have hsk:s.heap.objs.size<=h2.objs.size+1:=Nat.le_trans ha (Nat.le_of_lt (Nat.lt_succ_of_lt lt));have hak:a≠h2.objs.size+1:=Nat.ne_of_lt (Nat.lt_succ_of_lt lt);have kSn:H (h2.objs.size+1)=none:=I.hok.fresh hsk;have an:H a=none:=I.hok.fresh ha;have I5:Inv X pins Y (upd H (h2.objs.size+1) (.lst [])) {s with heap:=((h2.update a (Obj.mapSeq λ_=>(#[]:Array Value))).push (seqObj "tuple" its.toArray 0)).push (seqObj "list" #[] 0),toks:=s.toks}:=
  I.laid kp5 hsk ⟨Nat.zero_le _,[],0,.nil,by rw[<-hkS];exact Heap.get?_push_size _ rfl⟩
 have hL:a≠X.env.locals:=Nat.ne_of_gt (lt_of_lt_of_le I.lt ha);have I6:Inv X ((a,seqObj "list" #[] e1)::pins) Y (upd H (h2.objs.size+1) (.lst [])) {s with heap:=((h2.update a (Obj.mapSeq λ_=>(#[]:Array Value))).push (seqObj "tuple" its.toArray 0)).push (seqObj "list" #[] 0),toks:=s.toks}:=by
  refine I5.pins_of λp hp=>?_;rcases mem_cons.mp hp with rfl|hp
  ·exact⟨ho5,by rw[ag hak];exact an,hL,I.nofs ha,λv z=>by cases z⟩
  ·exact I5.pin p (mem_append_right _ hp)
 unfold ksk_tree;refine wpAny_bind (listItems_at ho rfl ?_);refine wpAny_bind (listUpdate_at ho rfl ?_ (by rw[size_toArray];omega) (Nat.zero_le _));refine wpAny_bind (seqEpoch_at ho1 rfl ?_);refine wpAny_bind (wpAny_newTuple ?_ (by show its.length<=_;omega));refine wpAny_bind (wpAny_newList ?_ (Nat.zero_le _));refine wpAny_holding ?_;show wpAny _ _ (ksk_rest a (.ref f) false its.toArray e1 (.ref ((h2.update a (Obj.mapSeq λ_=>(#[]:Array Value))).push (seqObj "tuple" its.toArray 0)).objs.size)) _ _ {s with heap:=((h2.update a (Obj.mapSeq λ_=>(#[]:Array Value))).push (seqObj "tuple" its.toArray 0)).push (seqObj "list" #[] 0)};rw[hkS];unfold ksk_rest;refine wpAny_bind (wpAny_rule ?_);first
  |rw[List.forIn_toArray]
  |(rw[<-Array.forIn_toList];simp only[List.toList_toArray])
  |rw[<-Array.forIn_toList]
 refine wpAny_bind (ksk_fold (λi s'=>qm X Y ((a,seqObj "list" #[] e1)::pins) H (h2.objs.size+1) kds i s') its 0 _ ?_ ?_ ?_)
 ·refine⟨_,[],I6,upd_same,λb o e=>?_,rfl⟩;have hb:b≠h2.objs.size+1:=ak e kSn;rw[aK (decide_eq_false hb),ag hb];exact e
 ·intro j u s' hu' hk;rw[Nat.zero_add]at hk⊢;have hj:j<its.length:=(List.getElem?_eq_some_iff.mp hu').1;obtain⟨x,hx⟩:∃x,xs[j]?=some x:=⟨_,getElem?_eq_getElem (by omega)⟩;obtain⟨u2,h1,rx⟩:=rv.get hx;rw[hu']at h1;cases h1;exact zM T hx rx hlen h64 hk (λv=>rfl)
 ·intro s' hk;rw[Nat.zero_add,show its.length=kds.length by omega]at hk;exact Fz hk hu hs hlen rv h64 (Nat.le_trans I.sz ha) (λx c e z=>by
   obtain⟨v,o,hoc,_⟩:=I.cell x c e;exact absurd (lt_of_lt_of_le (Heap.lt_size hoc) (by rw[z];exact ha)) (Nat.lt_irrefl _)) (λp hp z=>absurd (lt_of_lt_of_le (Heap.lt_size (I.pin p hp).1) (by rw[z];exact ha)) (Nat.lt_irrefl _)) h
theorem ue (I:Inv X pins Y H s) (hu:A.units+3<cLine) (hx:SqL X.K H l xs) (T:r6 X Y H A.in1.in1 (.ref f) xs kds) (hs:iW kds) (hlen:kds.length=xs.length) (h64:xs.length<64) (h:∀a s' H',Inv X pins Y (upd H' a (.lst ((plcK kds).map λi=>xs.getD i .non))) s'->H' a=none->Same H H'->vQ (.ref a) s'):wpAny (model X.prog X.w) A (call (.builtin "sorted") [.ref l] [(Str.ofString "key",.ref f)]) vQ E s:=by
 obtain⟨its,rv,pl,hz⟩:=I.list hx;have hl:=pl.isList;have hil:=rv.length;have h64':(64:Nat)<=sizeLine:=by decide
 refine call_function_entry_kw kind_sorted plain_sorted entry_sorted (ksk_s1 _ _) ?_;unfold Builtin.«sorted»;refine wpAny_bind (m:=checkCount "sorted" 1 1 _) (wpAny_pure ?_);refine wpAny_bind (collect_list hl ?_ (by omega));refine wpAny_bind (wpAny_newList ?_ (by omega));have hsz:((s.heap.push (seqObj "list" #[] 0)).update s.heap.objs.size (Obj.mapSeq (·++its.toArray))).objs.size=s.heap.objs.size+1:=by rw[Heap.size_update,size_push']
 have hoL:(((s.heap.push (seqObj "list" #[] 0)).update s.heap.objs.size (Obj.mapSeq (·++its.toArray))).push (seqObj "list" its.toArray 0)).get? (s.heap.objs.size+1)=some (seqObj "list" its.toArray 0):=by
  rw[<-hsz];exact Heap.get?_push_size _ rfl
 have keep:∀b o,s.heap.get? b=some o->(((s.heap.push (seqObj "list" #[] 0)).update s.heap.objs.size (Obj.mapSeq (·++its.toArray))).push (seqObj "list" its.toArray 0)).get? b=some o:=λb o q=>by
  have hlt:b<s.heap.objs.size:=Heap.lt_size q;rw[Heap.get?_push_ne _ _ _ (by rw[hsz];exact Nat.ne_of_lt (Nat.lt_succ_of_lt hlt)),Heap.get?_update_ne _ _ _ _ (Nat.ne_of_lt hlt),Heap.get?_push_ne _ _ _ (Nat.ne_of_lt hlt)];exact q
 show wpAny _ _ _ _ _ {s with heap:=((s.heap.push (seqObj "list" #[] 0)).update s.heap.objs.size (Obj.mapSeq (·++its.toArray))).push (seqObj "list" its.toArray 0)};rw[hsz];refine wpAny_bind (wpAny_holding (wpAny_call_entry_kw slot_list_sort ⟨_,hoL,rfl⟩ entry_list_sort ?_ (ksk_l1 _ _)));show wpAny (model X.prog X.w) A.in1.in1 (Builtin.«list.sort» ⟨[.ref (s.heap.objs.size+1)],[(Str.ofString "key",.ref f)]⟩) _ _ _;rw[ksk_t1];refine Ci I (by show A.units+1+1+1<_;omega) hoL keep (Nat.le_succ _) T hs hlen rv h64 λs' H' I' hn sm=>⟨_,rfl,?_⟩;exact wpAny_pure ⟨_,rfl,h _ s' H' I' hn sm⟩
end
structure LamAt (X:Cx) (x y:Str) (i:Nat) (params:Arguments) (body:Expr) (scope:Scope) (lpos:Pos) (P c0:Addr) (fb:Vv->Option D):Prop where
 tab:lamTabs.lookup P=some (lpos,X.env.qual++"<lambda>")
 code:X.env.code=.ref c0
 hd:PySem.W.codeHdIn X.K c0 P=true
 blt:∀h:Heap,X.K.In h->h.BuiltinsAt X.mg P
 ne:mainGlobals≠P
 sc:LamSc scope x y
 names:scope.names=[(x,.local),(y,.free)]
 kind:X.env.kindOf y=some .cell
 pos:X.N[i]?=some y
 dfl:defaultsOf params X.env=([],[])
 bind:∀q cl pm c' ctv u,bindArgs (zK q params body scope cl pm c' ctv) ⟨[u],[]⟩=pure [(x,u)]
 body:∀A q L f c' c s H,PP (cxL X A [x,y] (PySem.W.envX q scope L f c' [(y,c)]) s H) body fb
theorem zN (hn:scope.names=[(x,.local),(y,.free)]) (hc:env.cells.lookup y=some c):closureFor scope env=pure [(y,c)]:=by
 unfold closureFor;rw[hn];have e:cellOf env y=pure c:=by unfold cellOf;rw[hc]
 have b1:((NameKind.local:NameKind)==NameKind.free)=false:=rfl;have b2:((NameKind.free:NameKind)==NameKind.free)=true:=rfl;simp only[List.forIn_cons,List.forIn_nil,b1,b2,e,if_true,if_false,Bool.false_eq_true];rfl
def lh (fb:Vv->Option D) (dy:D):List D->Option (List D)
 |[]=>some []
 |d::ds=>(fb [some d,some dy]).bind λk=>(lh fb dy ds).bind λks=>some (k::ks)
theorem pw:∀ {ds ks:List D},lh fb dy ds=some ks->ks.length=ds.length
 |[],_,h=>by cases h;rfl
 |d::ds,_,h=>by
  obtain⟨k,_,h⟩:=bind_some h;obtain⟨ks,h2,h⟩:=bind_some h;cases h;rw[length_cons,length_cons,pw h2]
theorem se:∀ {ds ks:List D},lh fb dy ds=some ks->∀ {j:Nat} {d:D},ds[j]?=some d->fb [some d,some dy]=some (ks.getD j .non)
 |[],_,_,_,_,e=>by cases e
 |d::ds,_,h,j,d',e=>by
  obtain⟨k,h1,h⟩:=bind_some h;obtain⟨ks,h2,h⟩:=bind_some h;cases h;match j,e with
  |0,e=>cases e;exact h1
  |j+1,e=>exact se h2 e
section
variable {X:Cx} {Y:St} {H:Hp}
theorem zO (L:LamAt X x y i params body scope lpos P c0 fb) (hA:A.frames=some X.stack) (hh:A.handled=none) (hroom:A.depth<recursionLimit) (hf:H f=some (.frz (cL q params body scope [(y,c)] pm c' ctv) (.own f))) (hcc:∃oc vs t,H c'=some (.frz oc (.own P))/\oc.data=.fields vs/\vs[1]?=some (.str q t)) (hc:X.env.cells.lookup y=some c) (il:IsL X.K H ds xs) (hY:Y[i]?=some (some vy)) (iy:Is X.K H dy vy) (hk:lh fb dy ds=some kds):r6 X Y H A (.ref f) xs kds:=by
 intro j x' u hx rx O pins s H' I hO sm;obtain⟨oc,vs,t,h1,h2,h3⟩:=hcc;have gf:=(I.hok f _ (aD (sm _ _ hf)).2).1;have gc:=(I.hok c' _ (aD (sm _ _ h1)).2).1;obtain⟨m,_,hl⟩:=I.loc;obtain⟨w,rw',lk⟩:=hl i y vy L.pos hY (.inr (.inl L.kind));have hcell:s.heap.IsCell c (some w):=by
  rcases lk with⟨z,_⟩|⟨_,c2,z,q⟩
  ·rw[L.kind]at z;cases z
  ·rw[hc]at z;cases z;exact q
 obtain⟨d,hd,ix⟩:∃d,ds[j]?=some d/\Is X.K H d x':=by
  have hj:j<ds.length:=by rw[il.len];exact(List.getElem?_eq_some_iff.mp hx).1
  obtain⟨z,e,q⟩:=fJ il.paired (i:=j) (x:=ds[j]) (getElem?_eq_getElem hj);rw[hx]at e;cases e;exact⟨_,getElem?_eq_getElem hj,q⟩
 refine Ce (Q:=λv H2=>Same H' H2/\Is X.K (msk O H2) (kds.getD j .non) v) I hA hh hroom L.sc gf ⟨c',oc,vs,t,rfl,gc,h2,h3⟩ (L.bind _ _ _ _ _ u) hc hcell rw' rx (L.body A q _ f _ c s H' O [some d,some dy]) ?_;refine⟨⟨hO,rfl,λn e hn=>?_⟩,_,se hk hd,λv H2 s2 iv=>⟨s2,iv⟩⟩;match n,hn with
 |0,hn=>cases hn;exact⟨_,rfl,Is.mono sm _ _ ix⟩
 |1,hn=>cases hn;exact⟨_,rfl,Is.mono sm _ _ iy⟩
 |n+2,hn=>cases hn
def uf (fb:Vv->Option D) (i:Nat) (U:Vv):List D->Option (List D):=un1 λd=>(qZ d).bind λds=>(eJ U i).bind λdy=>(lh fb dy ds).bind λks=>
 if ds.length<64/\iW ks then some ((plcK ks).map λj=>ds.getD j .non)else none
theorem zP (hr:Room k X.A) (hg:Gl X "sorted") (hm:X.mg "sorted"=none) (ha:PX X [m] fm) (hs:starEach [m] X.env=[(false,eval m X.env)]) (L:LamAt X x y i params body scope lpos P c0 fb):PF X (.Call (.Name "sorted" p) [m] [⟨some "key",.Lambda params body scope lpos,kp⟩] pos) (λU=>(fm U).bind (uf fb i U)):=by
 intro O U pins s Y H Q I ⟨E,ds,q,k'⟩;obtain⟨as,e1,q⟩:=bind_some q;obtain⟨d,rfl,q2⟩:=cF q;obtain⟨es,q3,q4⟩:=bind_some q2;obtain⟨dy,q5,q6⟩:=bind_some q4;obtain⟨ks,q7,q8⟩:=bind_some q6;obtain⟨⟨h64,hsh⟩,q9⟩:=ay q8;subst q9;refine wpAny_Call_Name_kw (gk I hg hm yp ?_ (by decide) (by decide));refine callWith_kw (thn (ha O U pos pins s Y H (λvs H1=>Same H H1/\IsL X.K (msk O H1) [d] vs) I ⟨E,[d],e1,λvs H1 s1 il=>⟨s1,il⟩⟩) λus s1 h1=>?_) (by rw[hs];rfl) (by rw[hs];rfl);obtain⟨vs,H1,I1,r1,sm1,il⟩:=h1;obtain⟨v,rfl,h⟩:=is1 il;obtain⟨l,ys,rfl,t,l2⟩:=ic q3 h;obtain⟨u,rfl,ru⟩:=gp r1;cases ru;obtain⟨vy,hY,iy⟩:=(E.grow sm1).sh i dy (eU q5);obtain⟨c,hc⟩:=I.ok.has y (.inl L.kind);refine kws_cons (PySem.W.kla_eval L.dfl (zL I1 (I1.tab P _ L.tab) L.code (λh K=>PySem.W.codeHd_of_K K L.hd) L.blt L.ne (zN L.names hc) λf c' ctv s2 H2 I2 s12 gf hf hcc=>kws_nil ?_));show wpAny (model X.prog X.w) X.A (call (.builtin "sorted") [.ref l] [(Str.ofString "key",.ref f)]) _ _ s2;have l3:IsL X.K H2 es ys:=IsL.mono s12 _ _ l2.full;have T:r6 X Y H2 X.A.in1.in1 (.ref f) ys ks:=zO (A:=X.A.in1.in1) L I.ok.frames hr.hd (by have:=hr.dp;show X.A.depth<_;omega) hf hcc hc l3 hY (Is.mono s12 _ _ (Is.mono msk_le _ _ iy)) q7;have hlen:=pw q7;have hl2:=l2.len;refine ue I2 (by have:=hr.un;omega) (SqL.up s12 (msk_le.seq t)) T hsh (by omega) (by omega) λa s3 H3 I3 hn s23=>⟨.ref a,_,I3,rfl,k' a _ H3 ((sm1.trans s12).trans s23) hn ?_⟩;refine IsL.of (gM (IsL.mono (s12.trans s23).msk _ _ l2).paired .non .non λj hj=>?_);have:=List.mem_range.mp ((fB ks).mem_iff.mp hj);omega
end
def vp (K:Frag) (x:Str) (st:Stmt) (P:Addr):Prop:=∃ (f c0:Addr) (oc:Value) (od an:Option Addr) (osl:Array (Option Value)) (kV doc pm ct:Value),nsIn K mainGlobals x=some (some (.ref f))/\
 K.lookup f=some ⟨oc,od,.func (PySem.W.fnOf x x (cc st) (aC st) (aj st) .none kV doc pm an (.ref c0) ct),osl⟩/\PySem.W.codeIn K (.ref c0) x=true/\PySem.W.keepIn K (.ref f)=true/\PySem.W.codeHdIn K c0 P=true
def vq (K:Frag) (P:Addr):Prop:=∃ (bm:Addr) (o:Obj),nsIn K mainGlobals "__builtins__"=some (some (.ref bm))/\bm≠builtinsNs/\bm≠mainGlobals/\bm≠P/\K.lookup bm=some o/\o.cls=.type "module"/\o.dict=some builtinsNs/\o.data=.plain
def ug (fm:Vv->Option (List D)) (fb:Vv->Option D) (i:Nat):Vv->Option (List D):=λU=>(fm U).bind (uf fb i U)
def zQ (fm:Vv->Option (List D)) (fb:Vv->Option D) (i:Nat):Ev->Option Out:=ah (cw (orO (fN λU=>gE (ug fm fb i U)) (kR (ug fm fb i)))) λU=>some (.nx U)
section
variable {P:Program} {w:World} {K:Frag} {mg:Str->Option Value} {base:Heap}
theorem FA (g:GbOk P w K mg base G) (KX:K.In h) (hN:h.Ns mainGlobals mg) {st} (k:Nat) (S:FnScope N ps (aj st)) (b:bF x st ps) (t:vp K x st Pa) (hb:vq K Pa) (hst:aC st=[.Return (some (.Call (.Name "sorted" p) [.Name m mp] [⟨some "key",.Lambda params body scope lpos,kp⟩] pos)) rpos]) (tab:lamTabs.lookup Pa=some (lpos,(x++".<locals>.")++"<lambda>")) (ne:mainGlobals≠Pa) (sc:LamSc scope z y) (names:scope.names=[(z,.local),(y,.free)]) (hy:N[i]?=some y) (hm:N[j]?=some m) (hyk:(aj st).names.lookup y=some .cell) (hmk:(aj st).names.lookup m=some .local) (hmd:(m==("__debug__":Str))=false) (hmc:(m==("__classdict__":Str))=false) (dfl:∀env,defaultsOf params env=([],[])) (bind:∀q cl pm c' ctv u,bindArgs (zK q params body scope cl pm c' ctv) ⟨[u],[]⟩=pure [(z,u)]) (hbody:∀X:Cx,X.N=[z,y]->X.env.scope=scope->PP X body fb) (hgl:glS (lA N st k G) "sorted"=true) (hno:G.no "sorted"=true):
  Df P w K mg base x (k+1) (aO ps.length N.length (zQ (aa (va j) λ_=>some []) fb i)):=by
 obtain⟨f,c0,oc,od,an,osl,kV,doc,pm,ct,h1,h2,h3,h4,h5⟩:=t
 have Fn:=iS (st:=st) h2 h3 h4
 refine⟨f,_,ps,PySem.W.mg_of KX hN h1,h4,Fn.binds λkV doc pm an cdv ct us hl=>b x kV doc pm an cdv ct us hl,?_⟩
 refine w6 h2 h3 S (λvs H Q E ⟨O,ds,d,_,il,e,_⟩=>by rw[<-il.len];exact(io e).1) (λA outer s H vs Q E hr ⟨O,ds,d,hd,il,e,kk⟩=>?_)
 have o:=(nr g S (.ref c0) A outer s H E hr).s
 have pr:PRs (gq CX0 P w K mg base N x (aj st) f (.ref c0) A outer s H E).nox (aC st) (zQ (aa (va j) λ_=>some []) fb i):=by
  rw[hst];obtain⟨ok,gl⟩:=bc o hgl;have L:LamAt (gq CX0 P w K mg base N x (aj st) f (.ref c0) A outer s H E).nox z y i params body scope lpos Pa c0 fb:=
   ⟨tab,rfl,h5,λh' K'=>?_,ne,sc,names,hyk,hy,dfl _,bind,λA' q L' f' c' c s' H'=>hbody _ rfl rfl⟩
  ·have F:=(zP (p:=p) (pos:=pos) (kp:=kp) o.room gl (o.g.no _ hno) (px_cons (e:=.Name m mp) (mK j hm (.inl hmk) hmd hmc) pP) rfl L).u rfl;exact l8 (tw (kT (rz (xR F)) (pU F))) pV
  ·obtain⟨bm,ob,b1,b2,b3,b4,b5,b6⟩:=hb;exact⟨bm,ob,PySem.W.mg_of KX hN b1,b2,b3,b4,K' _ _ b5,b6⟩
 refine⟨_,(pr ⟨H,O⟩ O (az N.length ds)).nox,ji hd il,?_⟩
 obtain⟨o',e1,e2⟩:=bind_some (io e).2
 refine⟨o',e1,?_⟩
 cases o' with
 |rt d'=>cases e2;exact kk
 |nx U=>cases e2;exactλY' H' O' s' E'=>kk .non H' ⟨O',[],E'.same,E'.sub,E'.lis,List.nodup_nil,λ_ h=>(nomatch h),rfl,rfl⟩
 |bk U=>cases e2
 |ct U=>cases e2
end
abbrev lcA (l:Nat):Arguments:={posonlyargs:=[],args:=[{arg:="letter",annotation:=none,pos:=⟨l,38,l,44⟩}],vararg:=none,kwonlyargs:=[],kw_defaults:=[],kwarg:=none,defaults:=[]}
abbrev lcB (l:Nat):Expr:=.Tuple [.Subscript (.Subscript (.Name "letters" ⟨l,47,l,54⟩) (.Name "letter" ⟨l,55,l,61⟩) ⟨l,47,l,62⟩) (.Constant (.int 1) 0 ⟨l,63,l,64⟩) ⟨l,47,l,65⟩,.Name "letter" ⟨l,67,l,73⟩] 0 ⟨l,46,l,74⟩
abbrev lcS:Scope:={kind:=.function,names:=[(Str.ofString "letter",.local),(Str.ofString "letters",.free)],isGenerator:=false,isCoroutine:=false,more:=[]}
abbrev lcF:Vv->Option D:=tpF (aa (af ixD (af ixD (va 1) (va 0)) (cI 1)) (aa (va 0) ae))
def Ls (l:Nat):List Stmt:=[.Return (some (.Call (.Name "sorted" ⟨l,11,l,17⟩) [.Name "members" ⟨l,18,l,25⟩] [⟨some "key",.Lambda (lcA l) (lcB l) lcS ⟨l,31,l,74⟩,⟨l,27,l,74⟩⟩] ⟨l,11,l,75⟩)) ⟨l,4,l,75⟩]
theorem Lu:LamSc lcS "letter" "letters" where
 xl:=rfl
 yf:=rfl
 only:=λz h=>by
  have h':(if z==Str.ofString "letter"then some NameKind.local else if z==Str.ofString "letters"then some .free else none)=some .free:=by
   rw[<-h];show _=List.lookup z [(Str.ofString "letter",NameKind.local),(Str.ofString "letters",NameKind.free)];rw[List.lookup_cons,List.lookup_cons];cases z==Str.ofString "letter"<;>cases z==Str.ofString "letters"<;>rfl
  split at h'
  ·cases h'
  ·split at h'
   ·rename_i q;exact eq_of_beq q
   ·cases h'
 nocell:=λz hz=>by
  rcases mem_cons.mp hz with rfl|hz
  ·decide
  ·rw[mem_singleton.mp hz];decide
 kind:=rfl
 co:=rfl
 gen:=rfl
 ne:=by decide
section
variable {P:Program} {w:World} {K:Frag} {mg:Str->Option Value} {base:Heap}
theorem Cj (g:GbOk P w K mg base G) (KX:K.In h) (hN:h.Ns mainGlobals mg) {st} (k l:Nat) (S:FnScope ["letters","members"] ["letters","members"] (aj st)) (b:bF "as_they_come" st ["letters","members"]) (t:vp K "as_they_come" st Pa) (hb:vq K Pa) (hst:aC st=Ls l) (tab:lamTabs.lookup Pa=some ((⟨l,31,l,74⟩:Pos),("as_they_come.<locals>.<lambda>":Str))) (ne:mainGlobals≠Pa) (hyk:(aj st).names.lookup (Str.ofString "letters")=some NameKind.cell) (hmk:(aj st).names.lookup (Str.ofString "members")=some NameKind.local) (hgl:glS (lA ["letters","members"] st k G) "sorted"=true) (hno:G.no "sorted"=true):
  Df P w K mg base "as_they_come" (k+1) (aO 2 2 (zQ (aa (va 1) λ_=>some []) lcF 0)):=
 FA g KX hN k S b t hb (i:=0) (j:=1) (fb:=lcF) hst tab ne Lu rfl rfl rfl hyk hmk (by decide) (by decide) (λ_=>rfl) (λ_ _ _ _ _ _=>rfl) (λX h1 h2=>
  xy (px_cons (pp_ix (pp_ix (mK 1 (by rw[h1];rfl) (by rw[h2];exact .inr (.inr rfl))) (mK 0 (by rw[h1];rfl) (by rw[h2];exact .inl rfl))) pp_int) (px_cons (mK 0 (by rw[h1];rfl) (by rw[h2];exact .inl rfl)) pP))) hgl hno
end
theorem cons_in {K:Frag} (hn:K.lookup Pa=none) (X:Frag.In ((Pa,o)::K) h):K.In h/\h.get? Pa=some o:=by
 refine⟨λb ob e=>X b ob ?_,X Pa o ?_⟩
 ·rw[List.lookup_cons];cases q:b==Pa with
  |true=>rw[eq_of_beq q,hn]at e;cases e
  |false=>exact e
 ·rw[List.lookup_cons,beq_self_eq_true]
theorem tabs_of {K} (hL:lamTabs=[(Pa,z)]) (hn:K.lookup Pa=none) (X:K.In h) (hP:h.get? Pa=some {cls:=.none,data:=.fields #[]}) (hc:PySem.W.codeHdIn K c0 Pa=true):pM K h:=λb y e=>by
 rw[hL,List.lookup_cons]at e;cases q:b==Pa with
 |true=>
  rw[eq_of_beq q];exact⟨hP,hn,((PySem.W.codeHd_of_K X hc).tab hP).isCodeTable⟩
 |false=>rw[q]at e;cases e
theorem cn_3str {K} (X:K.In h) (hN:h.Ns mainGlobals mg) (t:∃ (a:Addr) (od:Option Addr) (n:Nat) (sl:Array (Option Value)) (t0:Tok) (t1:Tok) (t2:Tok),nsIn K mainGlobals x=some (some (.ref a))/\K.lookup a=some ⟨.type "tuple",od,.seq #[.str y t0,.str z t1,.str y3 t2] n,sl⟩):Cn K mg x (.tup [.str y,.str z,.str y3]):=by
 obtain⟨a,od,n,sl,t0,t1,t2,e,l⟩:=t;refine⟨.ref a,_,PySem.W.mg_of X hN e,rfl,λH=>⟨a,[.str y,.str z,.str y3],rfl,.inr ⟨_,_,n,l,rfl,rfl,?_,?_⟩,⟨_,_,rfl,rfl,⟨_,_,rfl,rfl,⟨_,_,rfl,rfl,rfl⟩⟩⟩⟩⟩
 ·show 3<=sizeLine;decide
 ·exact .cons ⟨t0,rfl⟩ (.cons ⟨t1,rfl⟩ (.cons ⟨t2,rfl⟩ .nil))
structure TExc (K:Frag) (x:Str):Prop where
 r:∀ {mg:Str->Option Value} {base:Heap},K.In base->base.Ns mainGlobals mg->RCls K mg base x
theorem Lv {K} (e:nsIn K mainGlobals x=some (some (.ref C))) (lk:K.lookup C=some (excClassObj nm qn C N bs bm hdct sn sub ab col dd k0 k1 k2 k3 k5 "ValueError.__new__")) (ok:PySem.W.nsOkIn K N=true) (ni:nsIn K N "__init__"=some none) (tl:PySem.W.tailIn K bmV bm=true):TExc K x:=
 ⟨λX hN=>B8 X hN e lk ok ni tl⟩
def zR (o:Option (Option Value)) (a:Addr):Bool:=match o with
 |some (some (.ref b))=>b==a
 |_=>false
theorem zS (h:zR o a=true):o=some (some (.ref a)):=by
 unfold zR at h;split at h
 ·rw[beq_iff_eq.mp h]
 ·cases h
def vt (o:Option (Option Value)) (n:String):Bool:=match o with
 |some (some (.builtin m))=>m==n
 |_=>false
theorem sf (h:vt o n=true):o=some (some (.builtin n)):=by
 unfold vt at h;split at h
 ·rw[beq_iff_eq.mp h]
 ·cases h
def zT (o:Option (Option Value)):Bool:=match o with
 |some none=>true
 |_=>false
theorem zU (h:zT o=true):o=some none:=by
 unfold zT at h;split at h
 ·rfl
 ·cases h
def zV (K:Frag) (C:Addr):Bool:=vt (findIn K (.ref C) "__getattribute__") "BaseException.__getattribute__"&&zT (findIn K (.ref C) "__getattr__")&&vt (findIn K (.ref C) "__class__") "object.__class__"&&
 decide (PySem.W.subIn K (.ref C) (.type "BaseException")=some true)&&decide (PySem.W.mroIn K C (.type "object")=some true)&&(PySem.W.clsIn K C).isSome
theorem zW {K} (h:zV K C=true):XCls K C:=by
 unfold zV at h;simp only[and_eq_true,decide_eq_true_eq]at h;obtain⟨⟨⟨⟨⟨h1,h2⟩,h3⟩,h4⟩,h5⟩,h6⟩:=h;exact⟨sf h1,zU h2,sf h3,h4,h5,h6⟩
def FB (K:Frag) (M:Addr) (as:List (Str×Addr)) (p:Str×Addr):Bool:=zR (nsIn K mainGlobals p.1) p.2&&zV K p.2&&decide (PySem.W.kitOne K (.ref p.2) (.ref M)=some true)&&decide (PySem.W.kitOne K (.ref p.2) (.type "ValueError")=some true)&&
 decide (PySem.W.exmOne K (.ref p.2) (.ref M)=some true)&&as.all λq=>decide (PySem.W.kitOne K (.ref p.2) (.ref q.2)=some (decide (p.1=q.1)))&&decide (PySem.W.exmOne K (.ref p.2) (.ref q.2)=some (decide (p.1=q.1)))
structure TXs (K:Frag) (ns:List Str):Prop where
 ex:∃ (as:List (Str×Addr)) (M:Addr),ns=as.map (·.1)/\nsIn K mainGlobals "MillError"=some (some (.ref M))/\nsIn K mainGlobals "ValueError"=some none/\∀p∈as,FB K M as p=true
theorem txs {K} (as:List (Str×Addr)) (e:ns=as.map (·.1)) (hM:nsIn K mainGlobals "MillError"=some (some (.ref M))) (hV:nsIn K mainGlobals "ValueError"=some none) (h:as.all (FB K M as)=true):TXs K ns:=
 ⟨as,M,e,hM,hV,λp hp=>List.all_eq_true.mp h p hp⟩
def hbX (ns:List Str) (M:Str):Bool:=decide (M=("MillError":Str))||decide (M∈ns)
theorem Ck {K} (t:TXs K ns) (X:K.In h) (hN:h.Ns mainGlobals mg):XTab K mg (tbX ns) (hbX ns):=by
 obtain⟨as,M,e,hM,hV,ha⟩:=t.ex;have at':∀x∈ns,∃a,(x,a)∈as/\nsIn K mainGlobals x=some (some (.ref a))/\XCls K a/\PySem.W.kitOne K (.ref a) (.ref M)=some true/\PySem.W.kitOne K (.ref a) (.type "ValueError")=some true/\PySem.W.exmOne K (.ref a) (.ref M)=some true/\
   ∀q∈as,PySem.W.kitOne K (.ref a) (.ref q.2)=some (decide (x=q.1))/\PySem.W.exmOne K (.ref a) (.ref q.2)=some (decide (x=q.1)):=λx hx=>by
  rw[e]at hx
  obtain⟨p,hp,rfl⟩:=List.mem_map.mp hx
  have z:=ha p hp
  unfold FB at z
  simp only[and_eq_true,decide_eq_true_eq,List.all_eq_true]at z
  obtain⟨⟨⟨⟨⟨z1,z2⟩,z3⟩,z4⟩,z5⟩,z6⟩:=z
  exact⟨p.2,hp,zS z1,zW z2,z3,z4,z5,z6⟩
 have tb:∀x c b,tbX ns x c=some b->x∈ns/\((c=("MillError":Str)/\b=true)\/(c=("ValueError":Str)/\b=true)\/(c∈ns/\b=decide (x=c))):=λx c b h=>by
  unfold tbX at h;split at h
  ·rename_i h1;refine⟨h1,?_⟩;split at h
   ·rename_i q;cases h;exact q.elim (λq=>.inl ⟨q,rfl⟩) λq=>.inr (.inl ⟨q,rfl⟩)
   ·split at h
    ·rename_i h2;cases h;exact .inr (.inr ⟨h2,rfl⟩)
    ·cases h
  ·cases h
 refine⟨λx c b h C hC=>?_,λx c b h C hC=>?_,λm hm=>?_⟩
 ·obtain⟨a,_,h1,h2,_⟩:=at' x (tb x c b h).1;rw[h1]at hC;cases hC;exact h2
 ·obtain⟨hx,q⟩:=tb x c b h;obtain⟨a,_,h1,_,h3,h4,_,h6⟩:=at' x hx;rw[h1]at hC;cases hC;rcases q with⟨rfl,rfl⟩|⟨rfl,rfl⟩|⟨hc,rfl⟩
  ·exact .inl ⟨M,PySem.W.mg_of X hN hM,h3⟩
  ·exact .inr ⟨"ValueError",by decide,PySem.W.mg_none_of X hN hV,by decide+kernel,h4⟩
  ·obtain⟨ac,hac,g1,_⟩:=at' c hc;exact .inl ⟨ac,PySem.W.mg_of X hN g1,(h6 _ hac).1⟩
 ·unfold hbX at hm;rw[Bool.or_eq_true,decide_eq_true_eq,decide_eq_true_eq]at hm;by_cases c:m=("MillError":Str)
  ·subst c;refine⟨M,PySem.W.mg_of X hN hM,λx b C h hC=>?_⟩;obtain⟨hx,q⟩:=tb x _ b h;obtain⟨a,_,h1,_,_,_,h5,h6⟩:=at' x hx;rw[h1]at hC;cases hC;have hb:b=true:=by
    unfold tbX at h;rw[if_pos hx,if_pos (.inl rfl)]at h;cases h;rfl
   rw[hb];exact h5
  ·have hmn:m∈ns:=hm.resolve_left c;obtain⟨am,ham,g1,_⟩:=at' m hmn;refine⟨am,PySem.W.mg_of X hN g1,λx b C h hC=>?_⟩;obtain⟨hx,q⟩:=tb x _ b h;obtain⟨a,_,h1,_,_,_,_,h6⟩:=at' x hx;rw[h1]at hC;cases hC;by_cases v:m=("ValueError":Str)
   ·subst v;rw[hV]at g1;cases g1
   ·rcases q with⟨q,_⟩|⟨q,_⟩|⟨_,rfl⟩
    ·exact absurd q c
    ·exact absurd q v
    ·exact(h6 _ ham).2
def gQ (dS:List D->Option Sl) (dR:List D->Option Sl):Ev->Option Out:=(ah (ifS (orQ (dY (trF (biF gB (aa (va 1) (aa (cT "tuple") ae))))) (au (af (bi true) (biF aS (aa (va 1) ae)) (cI 2)))) (ah (cw (evX (cB false) noV noV)) nxE) nxE) (ah (cw (evX (nZ (clF dR (aa (af ixD (va 1) (cI 0)) ae)) (clF dS (aa (va 0) (aa (af ixD (va 1) (cI 1)) ae)))) noV noV)) nxE))
def cM (bA:List D->Option Sl):Ev->Option Out:=(ah (ifS (orQ (dY (trF (biF gB (aa (va 1) (aa (tpF (aa (cT "list") (aa (cT "tuple") ae))) ae))))) (au (af gtD (biF aS (aa (va 1) ae)) (cD (.int 24))))) (ah noO' nxE) nxE) (ah (ifS (dY (trF (biF n4 (aa (lsF (aw [2] (jX noV (va 1)) (gNm 2) tQ (clF bA (aa (va 0) (aa (va 2) ae))))) ae)))) (ah noO' nxE) nxE) nxE))
structure Lt where
 s:Int
 t:Nat
 w:List Nat
structure LtOk (ps:List (List Pk)) (l:Lt):Prop where
 s1:1<=l.s
 s9:l.s<=9
 t:l.t<=ps.length
 w:WordOk ps l.t l.w
 fit:∀q∈l.w.zip (ps.drop l.t),l.s<=(Ll q).2
theorem wB {β:Type} {f} (xs:List β):mT (xs.map f)=(xs.zipIdx).map λp=>.tup [.int (p.2:Nat),f p.1]:=by
 unfold mT;rw[List.zipIdx_map,List.map_map];rfl
def aA (r:List Nat):D:=.lst (r.map λ(k:Nat)=>D.int (k:Int))
theorem jv {R L Sp} (h:R (vw U)=some d) (f:lfD d=false) (hl:L (vw U)=some ds) (fl:lfL ds=false) (hs:Sp (vw U)=some e):evX R L Sp U=some ((.deep,e),U):=by
 unfold evX orO fN frX orO lfO gE;simp only[h,hl,hs,f,fl,Option.bind_some];rfl
theorem pz:∀ {es:List D},lfL es=true->extC .deep es=.deep
 |[],_=>rfl
 |d::es,h=>by
  rw[zi,and_eq_true]at h;show extC (newCat .deep (extS d)) es=.deep;rw[show newCat .deep (extS d)=.deep by unfold extS newCat;rw[h.1];rfl];exact pz h.2
theorem wC (h0:em U i=some (.deep,ds)) (hR:R (shv U)=some (.lst es)) (lf:lfL es=true) (hl:ds.length+es.length<big):p9 i R U=some (.nx (U.set i (some (.deep,.lst (ds++es))))):=by
 unfold p9;rw[h0];simp only[Option.bind_some,hR];show(if ds.length+es.length<big then _ else _)=_;rw[if_pos hl,pz lf]
end L2
namespace L2
open PySem PySem.Spec PyProof.Rows
section
variable {G F:Ev->Option Out} {U U':Ev} {out:Option Out}
theorem bw (h:g U=some (s,U')) (k:G (U'.set i (some s))=out):ah (aN i g) G U=out:=(av (cx h)).trans k
theorem FC (h:f (vw U)=some d) (k:G U=out):ah (mQ f) G U=out:=(av (zt h)).trans k
theorem gh (h:c (vw U)=some false) (k:G U=out):ah (ifS c F nxE) G U=out:=(av ((iI h).trans rfl)).trans k
theorem Jd (h:F U=some (.nx U')) (k:G U'=out):ah F G U=out:=(av h).trans k
theorem dG (h:g U=some (s,U')):ah (cw g) G U=some (.rt s):=dM (jo h)
theorem Je (I:Nat->Ev->Prop) (hJ:J (shv U)=some ds) (h0:I 0 U) (hs:∀ (i:Nat) (d:D) (U:Ev),ds[i]?=some d->I i U->∃U',(tg d U).bind F=some (.nx U')/\I (i+1) U') (k:∀U',I ds.length U'->G U'=out):ah (frF J tg F) G U=out:=by
 obtain⟨U',e,i⟩:=mh (tg:=tg) (F:=F) I hJ h0 hs;exact(av e).trans (k _ i)
theorem uh {β:Type} {xs:List β} {mk} (I:Nat->Ev->Prop) (hJ:J (shv U)=some (xs.map mk)) (h0:I 0 U) (hs:∀ (i:Nat) (x:β) (U:Ev),xs[i]?=some x->I i U->∃U',(tg (mk x) U).bind F=some (.nx U')/\I (i+1) U') (k:∀U',I xs.length U'->G U'=out):ah (frF J tg F) G U=out:=Je I hJ h0 (λi d U hd hi=>by
 rw[getElem?_map]at hd;cases hx:xs[i]? with
 |none=>rw[hx]at hd;cases hd
 |some x=>rw[hx]at hd;cases hd;exact hs i x U hx hi) (by rw[length_map];exact k)
theorem FD (h:J (shv U)=none) (e:gG J tg F (frzS [i] U)=some x):frY i J tg F U=some x:=by
 unfold frY orO;rw[show gG J tg F U=none by unfold gG;rw[h];rfl];simp only[e]
theorem FE {β:Type} {xs:List β} {mk} (I:Nat->Ev->Prop) (hN:J (shv U)=none) (hJ:J (shv (frzS [j] U))=some (xs.map mk)) (h0:I 0 (frzS [j] U)) (hs:∀ (i:Nat) (x:β) (U:Ev),xs[i]?=some x->I i U->∃U',(tg (mk x) U).bind F=some (.nx U')/\I (i+1) U') (k:∀U',I xs.length U'->G U'=out):ah (frY j J tg F) G U=out:=by
 have hs':∀ (i:Nat) (d:D) (U:Ev),(xs.map mk)[i]?=some d->I i U->∃U',(tg d U).bind F=some (.nx U')/\I (i+1) U':=λi d U hd hi=>by
  rw[getElem?_map]at hd;cases hx:xs[i]? with
  |none=>rw[hx]at hd;cases hd
  |some x=>rw[hx]at hd;cases hd;exact hs i x U hx hi
 obtain⟨U',e,i⟩:=fw (step:=lu tg F) (xs.map mk) I _ h0 hs';rw[length_map]at i;have e':gG J tg F (frzS [j] U)=some (.nx U'):=by unfold gG;rw[hJ];exact e
 exact(av (FD hN e')).trans (k _ i)
end
theorem i6:∀r:List Nat,bE (r.map λ(k:Nat)=>D.int (k:Int))=some (r.map λ(k:Nat)=>(k:Int))
 |[]=>rfl
 |k::r=>by
  show(bE (r.map λ(k:Nat)=>D.int (k:Int))).bind (λxs=>some ((k:Int)::xs))=_;rw[i6 r];rfl
theorem Cm {r:List Nat} (h:r.Perm (List.range n)):srtZ (r.map λ(k:Nat)=>(k:Int))=(List.range n).map λ(k:Nat)=>(k:Int):=by
 refine(yq (h.symm.map _) ?_).symm;rw[List.pairwise_map];exact List.pairwise_lt_range.imp λh=>by omega
theorem zX (h:r.Perm (List.range n)) (hn:n<=24):kX [aA r]=some ((List.range n).map λ(k:Nat)=>D.int (k:Int)):=by
 show((bE (r.map λ(k:Nat)=>D.int (k:Int))).bind λns=>if ns.length<64 then some ((srtZ ns).map D.int)else none)=_;rw[i6];simp only[Option.bind_some];have hl:r.length=n:=by rw[h.length_eq,length_range]
 rw[if_pos (by rw[length_map];omega),Cm h,List.map_map];rfl
theorem FG {n:Nat} (hn:n<=24):lrD [.int (n:Int)]=some ((List.range n).map λ(k:Nat)=>D.int (k:Int)):=by
 show(if inR (n:Int)/\(n:Int)<1000000 then some (lq 0 (n:Int).toNat)else none)=_;rw[if_pos ⟨vm (by omega),by omega⟩,Int.toNat_natCast,zn]
theorem qo:∀r:List Nat,okL (r.map λ(k:Nat)=>D.int (k:Int))=true/\cG (r.map λ(k:Nat)=>D.int (k:Int))=0
 |[]=>⟨rfl,rfl⟩
 |k::r=>⟨by show(true&&okL _)=true;rw[(qo r).1];rfl,by show max 0 (cG _)=0;rw[(qo r).2];rfl⟩
theorem vu (neg:Bool) (h2:okE d=true) (h3:dep d<=50) (h4:Ef d d=true) (h1:aZ d=false):bi neg d d=some (.bl (!neg)):=by
 unfold bi kQ;rw[show(aZ d&&aZ d&&qO (toV d) (toV d))=false by rw[h1];rfl,if_neg (by decide),h2,h4,decide_eq_true h3,if_pos (by rfl),rg _ h2];cases neg<;>rfl
theorem FH (neg:Bool) (r:List Nat):bi neg (aA r) (aA r)=some (.bl (!neg)):=vu neg (qo r).1 (by show cG _+1<=50;rw[(qo r).2];decide) rfl rfl
theorem lj (h:L U=some ds):liG xs L U=some (.lst ds):=by
 unfold liG orO lsF;have:(xs U).bind noD=none:=by cases xs U<;>rfl
 simp only[this,h];rfl
theorem Jf (hn:n<=24) (h:ys U=some [.int (n:Int)]):orO (lrF ys) zs U=some ((List.range n).map λ(k:Nat)=>D.int (k:Int)):=by
 have:lrF ys U=some ((List.range n).map λ(k:Nat)=>D.int (k:Int)):=by
  unfold lrF;rw[h];exact FG hn
 unfold orO;rw[this]
def Wide (ps:List (List Pk)):Prop:=∀p∈ps,∀k∈p,1<=k.2
structure One (ps:List (List Pk)) (l:Lt):Prop where
 s:l.s=1
 t:l.t=0
 w:WordOk ps 0 l.w
theorem zY (o:Option Sl) (U:Ev):shv (o::U)=HJ o::shv U:=rfl
@[simp] theorem Lw (a b c d:D):b9 (some [a,b,c,d])=some [a,b,c,d]:=dc (show 4<big by decide)
@[simp] theorem J5 (a b c d e f g h i j:D):b9 (some [a,b,c,d,e,f,g,h,i,j])=some [a,b,c,d,e,f,g,h,i,j]:=dc (show 10<big by decide)
section
variable {α:Type} {G F:Ev->Option Out} {U U':Ev} {out:α->Option Out} {P:α->Prop}
theorem sg (h:F U=some (.nx U')) (k:∃a,G U'=out a/\P a):∃a,ah F G U=out a/\P a:=k.imp λ_ q=>⟨(av h).trans q.1,q.2⟩
theorem jw (h:g U=some (s,U')) (k:∃a,G (U'.set i (some s))=out a/\P a):∃a,ah (aN i g) G U=out a/\P a:=sg (cx h) k
theorem Dv (h:c (vw U)=some false) (k:∃a,G U=out a/\P a):∃a,ah (ifS c F nxE) G U=out a/\P a:=sg ((iI h).trans rfl) k
theorem nC {b:Bool} (h:c (vw U)=some b) (k1:∃U',(if b then F U else F' U)=some (.nx U')/\∃a,G U'=out a/\P a):∃a,ah (ifS c F F') G U=out a/\P a:=by
 obtain⟨U',e,k⟩:=k1;cases b with
 |true=>exact sg ((nt h).trans e) k
 |false=>exact sg ((iI h).trans e) k
theorem Dw {v:Nat->Int} (I:Nat->Ev->Prop) (hJ:J (shv U)=some ((List.range n).map λi=>D.int (v i))) (h0:I 0 U) (hs:∀ (i:Nat) (U:Ev),i<n->I i U->∃U',F (U.set s (some (.sh,.int (v i))))=some (.nx U')/\I (i+1) U') (k:∀U',I n U'->∃a,G U'=out a/\P a):∃a,ah (frF J (eNm s) F) G U=out a/\P a:=by
 obtain⟨U',e,i⟩:=mj (s:=s) (F:=F) I hJ h0 hs;exact sg e (k _ i)
theorem vx {β:Type} {xs:List β} {mk} (I:Nat->Ev->Prop) (hJ:J (shv U)=some (xs.map mk)) (h0:I 0 U) (hs:∀ (i:Nat) (x:β) (U:Ev),xs[i]?=some x->I i U->∃U',(tg (mk x) U).bind F=some (.nx U')/\I (i+1) U') (k:∀U',I xs.length U'->∃a,G U'=out a/\P a):∃a,ah (frF J tg F) G U=out a/\P a:=by
 obtain⟨U',e,i⟩:=mh (tg:=tg) (F:=F) I hJ h0 (λi d U hd hi=>by
  rw[getElem?_map]at hd;cases hx:xs[i]? with
  |none=>rw[hx]at hd;cases hd
  |some x=>rw[hx]at hd;cases hd;exact hs i x U hx hi)
 rw[length_map]at i;exact sg e (k _ i)
theorem eD {P:Ev->Prop} (h:P U):∃a,nxE U=some (.nx a)/\P a:=⟨U,rfl,h⟩
theorem Jg {P:Ev->Prop} (h:F' U=some (.nx U')) (p:P U'):∃a,ah F' nxE U=some (.nx a)/\P a:=sg h (eD p)
end
end L2
namespace HD
open PySem PySem.W PyProof.Rows
abbrev S0 (w:World) (os:OsState):Shared:=⟨boot_heap w.params,Array.mk [],boot_drawn,boot_toks,os⟩
theorem left_of {Ya:World->α} {F:World->OsState->Shared} (o:∀w:World,(fencedOpening treeTable p w N).map (λs=>(s.heap,s.gens,s.drawn,s.toks))=some (boot_heap w.params,Array.mk [],boot_drawn,boot_toks)) (sz:∀w:World,(boot_heap w.params).isNs mainGlobals=true/\(boot_heap w.params).objs.size=m₀/\(boot_heap w.params).nsMap mainGlobals "__annotations__"=ann) (rn:∀w os,topRun treeTable p w m₀ ann M (S0 w os) (topStub p)=some (F w os)) (le:M<=N) (lk:∀w os,((staticsOk (importedModules p.main.body) (boot_heap w.params) (F w os).heap&&namesBound p (F w os).heap&&gensDone (F w os)&&laidKept (boot_heap w.params) (F w os).heap),openSeen q loose (importedModules p.main.body) Xt true (F w os),Yf (F w os))=(true,openGood q loose,Ya w)):
  LeftO p q loose Xt Yf Ya N:=by
 intro w
 obtain⟨s,e,e'⟩:=Option.map_eq_some_iff.mp (o w)
 cases s with
 |mk h gs d k os=>
 simp only[Prod.mk.injEq]at e'
 obtain⟨a1,a2,a3,a4⟩:=e'
 subst a1 a2 a3 a4
 obtain⟨z1,z2,z3⟩:=sz w
 have l:=lk w os
 simp only[Prod.mk.injEq]at l
 obtain⟨l1,l2,l3⟩:=l
 have r:=topRun_mono (N-M) _ _ _ _ (rn w os)
 rw[show M+(N-M)=N from Nat.add_sub_cancel' le]at r
 have t:topFrom treeTable p w N (S0 w os)=some (F w os):=by
  unfold topFrom;dsimp only;rw[z2,z3];rw[r];simp only[z1];show(match(staticsOk (importedModules p.main.body) (boot_heap w.params) (F w os).heap&&namesBound p (F w os).heap&&gensDone (F w os)&&laidKept (boot_heap w.params) (F w os).heap)with|true=>_|false=>_)=_;rw[l1]
 unfold openEnds
 rw[e]
 show Option.map _ (topFrom treeTable p w N (S0 w os))=_
 rw[t]
 exact congrArg some (Prod.ext l2 l3)
abbrev Jh:=@PySem.W.Fast.tw10110043849684766642
abbrev Ji:=@PySem.W.Fast.tw14364793385576792824
abbrev zZ:=@PySem.W.Fast.tw12563942051412417395
theorem Jj:@segRunT=@Jh:=PySem.W.Fast.te10110043849684766642
theorem Jk:@treeTable=@Ji:=PySem.W.Fast.te14364793385576792824
theorem Co:@execs=@zZ:=PySem.W.Fast.te12563942051412417395
def put:List Obj->Nat->BT->BT
 |[],_,t=>t
 |o::l,i,t=>put l (i+1) (t.ins i o)
def toT (s:Shared):SharedT:=⟨put s.heap.objs.toList 0 .nil,s.heap.objs.size,s.heap.life,s.gens,s.drawn,s.toks,s.os⟩
def st1 (d:Shared):Option (Shared×Thread)->Shared
 |some (s,_)=>s
 |none=>d
def st2 (d:Shared):Option (Flow×Shared×Code×Pos)->Shared
 |some (_,s,_)=>s
 |none=>d
def st3 (d:SharedT):Option (Flow×SharedT×Code×Pos)->SharedT
 |some (_,s,_)=>s
 |none=>d
theorem of1 (h:o.map (·.2)=some t):o=some (st1 d o,t):=by
 cases o with
 |none=>cases h
 |some z=>cases h;rfl
theorem of2 (h:o.map (λr=>(r.1,r.2.2))=some (f,c,q)):o=some (f,st2 d o,c,q):=by
 cases o with
 |none=>cases h
 |some z=>obtain⟨a,b,x,y⟩:=z;cases h;rfl
theorem of3 (h:o.map (λr=>(r.1,r.2.2))=some (f,c,q)):o=some (f,st3 d o,c,q):=by
 cases o with
 |none=>cases h
 |some z=>obtain⟨a,b,x,y⟩:=z;cases h;rfl
section
variable (p:Program) (m₀:Nat) (ann:Option Value) (env:Env) (q pa pb:Pos) (k1 k2 k3:Nat)
abbrev cd:Code:=.body (behindTheImports p) env
def A (w:World) (os:OsState):Option (Shared×Thread):=topGo treeTable p w m₀ ann k1 (S0 w os) (topStub p)
def SA (w:World) (os:OsState):Shared:=st1 (S0 w os) (A p m₀ ann k1 w os)
def B (w:World) (os:OsState):Option (Flow×Shared×Code×Pos):=segRun treeTable p w m₀ ann 1 k2 (SA p m₀ ann k1 w os) (blockOf (behindTheImports p) env (cd p env) pa [topFrame q])
def SB (w:World) (os:OsState):Shared:=st2 (S0 w os) (B p m₀ ann env q pa k1 k2 w os)
def C (w:World) (os:OsState):Option (Flow×SharedT×Code×Pos):=Jh Ji p w m₀ ann 1 k3 (toT (SB p m₀ ann env q pa k1 k2 w os)) ⟨(zZ (behindTheImports p) env).wrap doneF deadEnd id id,cd p env,pb,[topFrame q]⟩
theorem Jl (w:World) (os:OsState):C p m₀ ann env q pa pb k1 k2 k3 w os=segRunT treeTable p w m₀ ann 1 k3 (toT (SB p m₀ ann env q pa k1 k2 w os)) (piecesOf (behindTheImports p) env (cd p env) pb [topFrame q]):=by
 unfold C piecesOf;rw[Jj,Jk,Co]
def SC (w:World) (os:OsState):SharedT:=st3 (toT (S0 w os)) (C p m₀ ann env q pa pb k1 k2 k3 w os)
end
theorem run_of (hA:∀w os,(A p m₀ ann k1 w os).map (·.2)=some ⟨denote treeTable (cd p env),cd p env,pa,[topFrame q]⟩) (hB:∀w os,(B p m₀ ann env q pa k1 k2 w os).map (λr=>(r.1,r.2.2))=some (.next,cd p env,pb)) (hT:∀w os,(toT (SB p m₀ ann env q pa k1 k2 w os)).abs=SB p m₀ ann env q pa k1 k2 w os) (hC:∀w os,(C p m₀ ann env q pa pb k1 k2 k3 w os).map (λr=>(r.1,r.2.2))=some (.next,cd p env,pc)) (hF:∀w s,topRun treeTable p w m₀ ann k4 s ⟨doneF .next,cd p env,pc,[topFrame q]⟩=some s) (w:World) (os:OsState):
  topRun treeTable p w m₀ ann (k1+(k2+(k3+k4))) (S0 w os) (topStub p)=some (SC p m₀ ann env q pa pb k1 k2 k3 w os).abs:=by
 have a:=of1 (d:=S0 w os) (hA w os)
 have b:=of2 (d:=S0 w os) (hB w os)
 have c:=of3 (d:=toT (S0 w os)) (hC w os)
 rw[Jl]at c
 have c:=segRun_of c
 rw[hT w os]at c
 rw[<-Jl]at c
 refine go_top a (piece_block b ?_)
 have k:=piece_app (rest:=[]) c (piece_nil (hF w _))
 rw[List.append_nil]at k
 exact k
end HD
namespace K16
open PySem PySem.Spec PyProof.Rows L2
abbrev Lts:=List (Int×Int)
def a8 (ls:Lts) (a:Int):Int:=(ls.getD a.toNat (0,0)).2
theorem pA {α:Type} {p q r} (hd:∀a,p a=true->q a=false) (hr:∀a,r a=(p a||q a)):∀l:List α,(l.filter p++l.filter q).Perm (l.filter r)
 |[]=>.refl _
 |a::l=>by
  have ih:=pA hd hr l;have e:=hr a;cases hp:p a with
  |true=>
   have hq:=hd a hp;rw[hp,Bool.true_or]at e;rw[List.filter_cons_of_pos hp,List.filter_cons_of_neg (by rw[hq];decide),List.filter_cons_of_pos e];exact ih.cons a
  |false=>
   rw[hp,Bool.false_or]at e;rw[List.filter_cons_of_neg (by rw[hp];decide)];cases hq:q a with
   |true=>
    rw[List.filter_cons_of_pos hq,List.filter_cons_of_pos (by rw[e];exact hq)];exact List.perm_middle.trans (ih.cons a)
   |false=>
    rw[List.filter_cons_of_neg (by rw[hq];decide),List.filter_cons_of_neg (by rw[e,hq];decide)];exact ih
def cZ (f:Int->Int) (l:List Int) (n:Nat):List Int:=(List.range n).flatMap λ(t:Nat)=>l.filter λa=>decide (f a=(t:Int))
theorem gR (f:Int->Int) (l:List Int) (n:Nat):cZ f l (n+1)=cZ f l n++l.filter λa=>decide (f a=(n:Int)):=by
 unfold cZ;rw[List.range_succ,List.flatMap_append];simp
theorem gS (h0:∀a∈l,0<=f a):∀n:Nat,(cZ f l n).Perm (l.filter λa=>decide (f a<(n:Int)))
 |0=>by
  have e:(l.filter λa=>decide (f a<((0:Nat):Int)))=[]:=List.filter_eq_nil_iff.mpr λa ha=>by have:=h0 a ha;simp;omega
  rw[e];exact .refl _
 |n+1=>by
  rw[gR];refine((gS h0 n).append_right _).trans (pA (λa h=>?_) (λa=>?_) l)
  ·have:=of_decide_eq_true h;exact decide_eq_false (by omega)
  ·rw[<-Bool.decide_or];exact decide_eq_decide.mpr (by omega)
def sj (f:Int->Int) (a b:Int):Prop:=HT.lexLt [f b,b] [f a,a]=false
theorem Cp (h:f a<f b):sj f a b:=by
 unfold sj;rw[HT.lexLt_cons,if_neg (by omega)];exact decide_eq_false (by omega)
theorem Cq (h:f a=f b) (h2:a<=b):sj f a b:=by
 unfold sj;rw[HT.lexLt_cons,if_pos h.symm,HT.lexLt_cons];split
 ·rfl
 ·exact decide_eq_false (by omega)
theorem wD (h1:sj f a b) (h2:sj f b a):a=b:=by
 have:=yD _ _ h2 h1;injection this with _ q;injection q
theorem iO (hs:l.Pairwise (·<=·)):∀n:Nat,(cZ f l n).Pairwise (sj f)
 |0=>.nil
 |n+1=>by
  rw[gR];refine List.pairwise_append.mpr ⟨iO hs n,?_,λa ha b hb=>?_⟩
  ·refine((hs.sublist List.filter_sublist).imp_of_mem λ{a b} ha hb hab=>?_);have ea:=of_decide_eq_true (List.mem_filter.mp ha).2;have eb:=of_decide_eq_true (List.mem_filter.mp hb).2;exact Cq (ea.trans eb.symm) hab
  ·obtain⟨t,ht,ha⟩:=List.mem_flatMap.mp ha;have ea:=of_decide_eq_true (List.mem_filter.mp ha).2;have eb:=of_decide_eq_true (List.mem_filter.mp hb).2;have:=List.mem_range.mp ht;exact Cp (by rw[ea,eb];omega)
theorem fC (ns:List Int):(srtZ ns).Perm ns:=List.mergeSort_perm _ _
theorem sk (ns:List Int):(srtZ ns).Pairwise (·<=·):=by
 have h:=List.pairwise_mergeSort (le:=λa b:Int=>decide (a<=b)) (λa b c h1 h2=>decide_eq_true (Int.le_trans (of_decide_eq_true h1) (of_decide_eq_true h2))) (λa b=>by
  rw[Bool.or_eq_true];rcases Int.le_total a b with h|h
  ·exact .inl (decide_eq_true h)
  ·exact .inr (decide_eq_true h)) ns
 exact h.imp λh=>of_decide_eq_true h
def qp (ls:Lts):Prop:=∀p∈ls,0<=p.2/\p.2<10
def lC (ls:Lts):Prop:=True
theorem j7 (h:qp ls) (a:Int):0<=a8 ls a/\a8 ls a<10:=by
 unfold a8;rw[List.getD_eq_getElem?_getD];cases e:ls[a.toNat]? with
 |none=>exact⟨Int.le_refl _,by decide⟩
 |some p=>exact h p (mem_of_getElem? e)
def lE (ls:Lts) (a:Int):D:=.tup [.int (a8 ls a),.int a]
theorem vz (ls:Lts) (a:Int):flt (lE ls a)=[a8 ls a,a]:=rfl
theorem getD_map' {α β:Type} (f:α->β) (l:List α) (h:i<l.length) (x:α) (y:β):(l.map f).getD i y=f (l.getD i x):=by
 rw[List.getD_eq_getElem?_getD,List.getD_eq_getElem?_getD,getElem?_map,getElem?_eq_getElem h];rfl
def gi (ls:Lts) (ms:List Int):List Int:=(plcK (ms.map (lE ls))).map λj=>ms.getD j 0
theorem ui {ms:List Int} (hj:j∈plcK (ms.map (lE ls))):j<ms.length:=by
 have:=List.mem_range.mp ((fB (ms.map (lE ls))).mem_iff.mp hj);rwa [length_map]at this
theorem j8 (_:lC ls) (ms:List Int):(gi ls ms).Perm ms:=by
 have:=(fB (ms.map (lE ls))).map λj=>ms.getD j 0;rw[length_map,gL]at this;exact this
theorem z0 (_:lC ls) (ms:List Int):((plcK (ms.map (lE ls))).map λj=>(ms.map D.int).getD j .non)=(gi ls ms).map D.int:=by
 unfold gi;rw[List.map_map];exact List.map_congr_left λj hj=>getD_map' D.int ms (ui hj) 0 .non
theorem Cr (h:qp ls) (ms:List Int):cZ (a8 ls) (srtZ ms) 10=gi ls ms:=by
 refine List.Perm.eq_of_pairwise (le:=sj (a8 ls)) (λa b _ _ x y=>wD x y) (iO (sk ms) 10) ?_ ?_
 ·refine List.pairwise_map.mpr ((r9 (ms.map (lE ls))).imp_of_mem λ{a b} ha hb hab=>?_);rw[getD_map' (lE ls) ms (ui ha) 0 .non,getD_map' (lE ls) ms (ui hb) 0 .non,vz,vz]at hab;exact hab
 ·refine((gS (λa _=>(j7 h a).1) 10).trans ?_).trans (j8 trivial ms).symm;have e:((srtZ ms).filter λa=>decide (a8 ls a<((10:Nat):Int)))=srtZ ms:=List.filter_eq_self.mpr λa _=>decide_eq_true (j7 h a).2;rw[e];exact fC ms
end K16
namespace K16
open PySem PySem.Spec PyProof.Rows L2
def fU:Ev->Option Out:=(ah (aN 2 (evX (lsF (dpF (aa (cI 1) (aa (af cu (cI 10) (cI 9)) (aa (af cu (cI 10) (cI 18)) (aa (af cu (cI 10) (cI 27)) (aa (af cu (cI 10) (cI 36)) ae))))))) (dpF (aa (cI 1) (aa (af cu (cI 10) (cI 9)) (aa (af cu (cI 10) (cI 18)) (aa (af cu (cI 10) (cI 27)) (aa (af cu (cI 10) (cI 36)) ae)))))) (fLs (aa (frX (cI 1) noV noV) (aa (frX (af cu (cI 10) (cI 9)) noV noV) (aa (frX (af cu (cI 10) (cI 18)) noV noV) (aa (frX (af cu (cI 10) (cI 27)) noV noV) (aa (frX (af cu (cI 10) (cI 36)) noV noV) ae)))))))) (ah (aN 3 (evX (lsF (dpF ae)) (dpF ae) (fLs ae))) (ah (frF (jX (r1F (aa (va 1) ae)) (biF noD (aa (va 1) ae))) (eNm 4) (ah (aN 5 (evX (cI 0) noV noV)) (ah (ifS (au (af ltD (af bb (cI 1) (af aM (va 4) (cI 16))) (biF aS (aa (va 0) ae)))) (ah (aN 5 (evX (af ixD (va 0) (af bb (cI 1) (af aM (va 4) (cI 16)))) noV noV)) nxE) nxE) (ah (iB 3 (evX (af aM (af dJ (va 5) (af ixD (va 2) (af dJ (va 4) (cI 16)))) (af cu (cI 10) (cI 9))) noV noV)) nxE)))) (ah (rtN 3) nxE))))
def de (bV:List D->Option Sl):Ev->Option Out:=(ah (ifS (xw (au (af gtD (biF aS (aa (va 0) ae)) (cI 0))) (au (af (bi false) (af aM (af ixD (va 0) (cI 0)) (cI 2)) (cI 1)))) (ah (cw (evX (clF bV (aa (va 0) (aa (va 1) ae))) noV (fCl bV (aa (va 0) (aa (va 1) ae))))) nxE) nxE) (ah (aN 2 (evX (cI 7919) noV noV)) (ah (frF (jX noV (va 0)) (eNm 3) (ah (aN 2 (evX (af aM (af bb (af bb (af cW (va 2) (va 2)) (af cW (af aM (va 3) (af cu (cI 10) (cI 60))) (cI 131))) (cI 17)) (cI 1000000000039)) noV noV)) nxE)) (ah (aN 4 (evX (lsF (dpF ae)) (dpF ae) (fLs ae))) (ah (frF (jX (r1F (aa (va 1) ae)) (biF noD (aa (va 1) ae))) (eNm 5) (ah (aN 2 (evX (af aM (af bb (af bb (af cW (va 2) (va 2)) (af cW (cI 48271) (va 5))) (cI 5)) (cI 1000000000039)) noV noV)) (ah (y7 4 2 (evX (va 2) noV noV) (va 2)) nxE))) (ah (frF (jX (r1F (aa (biF aS (aa (va 0) ae)) ae)) (biF noD (aa (biF aS (aa (va 0) ae)) ae))) (eNm 5) (ah (aN 7 (evX (af bb (af cW (af ixD (va 4) (af aM (va 5) (va 1))) (cI 1000003)) (va 5)) (p8 (orO (af cW (af ixD (va 4) (af aM (va 5) (va 1))) (cI 1000003)) (lsF noV)) (va 5)) noV)) (ah (gN 4 (af aM (va 5) (va 1)) (evX (af aM (af bb (va 7) (af aM (af ixD (va 0) (va 5)) (af cu (cI 10) (cI 60)))) (cI 1000000000039)) noV noV) (af aM (af bb (va 7) (af aM (af ixD (va 0) (va 5)) (af cu (cI 10) (cI 60)))) (cI 1000000000039))) nxE))) (ah (aN 6 (evX (lsF (dpF ae)) (dpF ae) (fLs ae))) (ah (frY 4 (jX noV (va 4)) (eNm 7) (ah (iB 6 (evX (af dJ (af aM (af cW (va 7) (va 7)) (cI 998244353)) (cI 7)) noV noV)) nxE)) (ah (rtN 6) nxE)))))))))
theorem z7 (h:0<=j) (h2:j<=1000000) (h3:i.natAbs<2^64):cu (.int i) (.int j)=some (.int (i^j.toNat)):=by unfold cu;exact if_pos ⟨h,h2,h3⟩
theorem p10 (h:0<=j) (h2:j<=1000000):∃P:Int,0<P/\cu (.int 10) (.int j)=some (.int P):=⟨_,Int.pow_pos (by decide),z7 h h2 (by decide)⟩
theorem z8 (h:gI i k g U=some o):gN i k g R U=some o:=by unfold gN orO;rw[h]
theorem FI (h0:gI i k g U=none) (h:yo i k R U=some o):gN i k g R U=some o:=by unfold gN orO;rw[h0];exact h
def Tn (t:Int):Prop:=0<t/\t<2^200
theorem Cs (h:0<=j) (h2:j<=1000000) (h3:(10:Int)^j.toNat<2^200):∃P:Int,Tn P/\cu (.int 10) (.int j)=some (.int P):=⟨_,⟨Int.pow_pos (by decide),h3⟩,z7 h h2 (by decide)⟩
theorem Jm (h:Tn t):dJ (.int i) (.int t)=some (.int (i/t)):=rT h.1 (Nat.lt_trans ((Nat.log2_lt (by have:=h.1;omega)).mpr (show t.natAbs<2^200 by have:=h.2;have:=h.1;omega)) (by decide))
theorem Ct (ha:Tn a) (hb:Tn b) (hc:Tn c) (hd:Tn d) (h0:0<=q) (h4:q<4):∃t:Int,Tn t/\ixD (.lst [.int 1,.int a,.int b,.int c,.int d]) (.int q)=some (.int t):=by
 rcases(show q=0\/q=1\/q=2\/q=3 by omega)with rfl|rfl|rfl|rfl
 ·exact⟨1,⟨by decide,by decide⟩,rfl⟩
 ·exact⟨a,ha,rfl⟩
 ·exact⟨b,hb,rfl⟩
 ·exact⟨c,hc,rfl⟩
def uj (f:List D->Option Sl):Prop:=∀ns:List Int,∃cs:List Int,cs.length=60/\(∀c∈cs,0<=c)/\f [scD ns,.int 60]=some (.deep,scD cs)
theorem Cu:uj (aO 2 6 fU):=λns=>by
 have hs:az 6 [scD ns,.int 60]=[some (.sh,scD ns),some (.sh,.int 60),none,none,none,none]:=rfl;obtain⟨a,a0,ea⟩:=Cs (j:=9) (by decide) (by decide) (by decide);obtain⟨b,b0,eb⟩:=Cs (j:=18) (by decide) (by decide) (by decide);obtain⟨c,c0,ec⟩:=Cs (j:=27) (by decide) (by decide) (by decide);obtain⟨d,d0,ed⟩:=Cs (j:=36) (by decide) (by decide) (by decide);have L:=mj (n:=60) (s:=4) (v:=λi=>(i:Int)) (J:=jX (r1F (aa (va 1) ae)) (biF noD (aa (va 1) ae)))
  (F:=(ah (aN 5 (evX (cI 0) noV noV)) (ah (ifS (au (af ltD (af bb (cI 1) (af aM (va 4) (cI 16))) (biF aS (aa (va 0) ae)))) (ah (aN 5 (evX (af ixD (va 0) (af bb (cI 1) (af aM (va 4) (cI 16)))) noV noV)) nxE) nxE) (ah (iB 3 (evX (af aM (af dJ (va 5) (af ixD (va 2) (af dJ (va 4) (cI 16)))) (af cu (cI 10) (cI 9))) noV noV)) nxE))))
  (U:=[some (.sh,scD ns),some (.sh,.int 60),some (.deep,.lst [.int 1,.int a,.int b,.int c,.int d]),some (.deep,.lst []),none,none])
  (λi U=>∃o4 o5,∃cs:List Int,cs.length=i/\(∀c∈cs,0<=c)/\U=[some (.sh,scD ns),some (.sh,.int 60),some (.deep,.lst [.int 1,.int a,.int b,.int c,.int d]),some (.deep,scD cs),o4,o5]) (pj (by simp;exact fA (by decide))) ⟨none,none,[],rfl,(λ_ h=>nomatch h),rfl⟩ (by
   rintro i U hi ⟨o4,o5,cs,hl,hb,rfl⟩;obtain⟨t,t0,et⟩:=Ct a0 b0 c0 d0 (q:=(i:Int)/16) (by omega) (by omega);have hm:=md (i:Int) (show(0:Int)<16 by decide);have key:∃x:Int,(ifS (au (af ltD (af bb (cI 1) (af aM (va 4) (cI 16))) (biF aS (aa (va 0) ae)))) (ah (aN 5 (evX (af ixD (va 0) (af bb (cI 1) (af aM (va 4) (cI 16)))) noV noV)) nxE) nxE)
     [some (.sh,scD ns),some (.sh,.int 60),some (.deep,.lst [.int 1,.int a,.int b,.int c,.int d]),some (.deep,scD cs),some (.sh,.int (i:Int)),some (.deep,.int 0)]=some (.nx [some (.sh,scD ns),some (.sh,.int 60),some (.deep,.lst [.int 1,.int a,.int b,.int c,.int d]),some (.deep,scD cs),some (.sh,.int (i:Int)),some (.deep,.int x)]):=by
    by_cases h:1+(i:Int)%16<(ns.length:Int)
    ·obtain⟨x,ex⟩:=iN (ns:=ns) (i:=1+(i:Int)%16) (by omega) h;refine⟨x,(nt ?_).trans ((av (cx (ax (d:=.int x) ?_ rfl))).trans rfl)⟩
     ·simp[iC _ 16,h]
     ·simp[iC _ 16,ex]
    ·refine⟨0,(iI ?_).trans rfl⟩;simp[iC _ 16,h]
   obtain⟨x,ex⟩:=key;refine⟨_,(av (cx (ax (d:=.int 0) rfl rfl))).trans ((av ex).trans (av (j0 (ds:=cs.map D.int) (ds0:=cs.map D.int) (c0:=.deep) (d:=.int (x/t%a)) rfl (ax ?_ rfl) rfl ?_))),⟨some (.sh,.int i),some (.deep,.int x),cs++[x/t%a],by simp[hl],(λc hc=>(mem_append.mp hc).elim (hb c) λh=>by rw[mem_singleton.mp h];exact Int.emod_nonneg _ (by have:=a0.1;omega)),?_⟩⟩
   ·simp[iz,et,Jm t0,ea,ez a0.1]
   ·rw[length_map,hl];exact lt_of_le_of_lt (show i+1<=60 by omega) (by decide)
   ·simp only[scD,List.map_append];rfl)
 obtain⟨U',e,o4,o5,cs,hl,hb,rfl⟩:=L;refine⟨cs,hl,hb,aP rfl ?_⟩;unfold fU;rw[hs];refine(av (cx (evX_lfs (d:=.lst [.int 1,.int a,.int b,.int c,.int d]) (ds:=[.int 1,.int a,.int b,.int c,.int d]) (by simp[ea,eb,ec,ed]) rfl (by simp[ea,eb,ec,ed]) rfl))).trans ((av (cx (evX_lfs (d:=.lst []) (ds:=[]) (by simp) rfl (by simp) rfl))).trans ((av e).trans (dM ?_)));rfl
def qq (f:List D->Option Sl):Prop:=∀ns:List Int,ns.length<1000->∃cs:List Int,cs.length=60/\(∀c∈cs,0<=c)/\f [scD ns,.int 60]=some (.deep,scD cs)
theorem z9 (hp:uj pa):qq (aO 2 8 (de pa)):=λns hn=>by
 have hs:az 8 [scD ns,.int 60]=[some (.sh,scD ns),some (.sh,.int 60),none,none,none,none,none,none]:=rfl;obtain⟨P,P0,eP⟩:=p10 (j:=60) (by decide) (by decide);have hT:∃c:Bool,xw (au (af gtD (biF aS (aa (va 0) ae)) (cI 0))) (au (af (bi false) (af aM (af ixD (va 0) (cI 0)) (cI 2)) (cI 1))) [some (scD ns),some (.int 60),none,none,none,none,none,none]=some c:=by
  by_cases h:(0:Int)<(ns.length:Int)
  ·obtain⟨x,ex⟩:=iN (ns:=ns) (i:=0) (by decide) h;refine⟨decide (x%2=1),?_⟩;simp[ex,iC _ 2];intro e;subst e;simp at h
  ·refine⟨false,?_⟩;simp;intro e;omega
 obtain⟨c,hT⟩:=hT;cases c with
 |true=>
  obtain⟨cs,l,b,e⟩:=hp ns;refine⟨cs,l,b,aP rfl ?_⟩;unfold de;rw[hs];refine dM ((nt hT).trans (dM (jo (jn (d:=scD cs) (e:=scD cs) ?_ rfl rfl ?_))))
  ·simp[e]
  ·simp[e]
 |false=>
  have L1:=mh (J:=jX noV (va 0)) (tg:=eNm 3) (F:=(ah (aN 2 (evX (af aM (af bb (af bb (af cW (va 2) (va 2)) (af cW (af aM (va 3) (af cu (cI 10) (cI 60))) (cI 131))) (cI 17)) (cI 1000000000039)) noV noV)) nxE)) (ds:=ns.map D.int)
   (U:=[some (.sh,scD ns),some (.sh,.int 60),some (.deep,.int 7919),none,none,none,none,none])
   (λi U=>∃v o,0<=v/\v<1000000000039/\U=[some (.sh,scD ns),some (.sh,.int 60),some (.deep,.int v),o,none,none,none,none]) (by simp) ⟨7919,none,by decide,by decide,rfl⟩ (by
    rintro i d U hd ⟨v,o,h1,h2,rfl⟩;rw[getElem?_map]at hd;cases hq:ns[i]? with
    |none=>rw[hq]at hd;cases hd
    |some p=>
     rw[hq]at hd;cases hd;refine⟨_,av (cx (ax (d:=.int ((v*v+p%P*131+17)%1000000000039)) ?_ rfl)),⟨_,_,Int.emod_nonneg _ (by decide),Int.emod_lt_of_pos _ (by decide),rfl⟩⟩;simp[ud h1 h2,eP,ez P0,qh (show(-1000000:Int)<131 by decide) (show(131:Int)<1000000 by decide)];exact ez (by decide))
  obtain⟨U1,e1,v1,o1,g1,g2,rfl⟩:=L1;have L2:=mj (J:=jX (r1F (aa (va 1) ae)) (biF noD (aa (va 1) ae))) (s:=5) (v:=λi=>(i:Int)) (n:=60) (F:=(ah (aN 2 (evX (af aM (af bb (af bb (af cW (va 2) (va 2)) (af cW (cI 48271) (va 5))) (cI 5)) (cI 1000000000039)) noV noV)) (ah (y7 4 2 (evX (va 2) noV noV) (va 2)) nxE)))
   (U:=[some (.sh,scD ns),some (.sh,.int 60),some (.deep,.int v1),o1,some (.deep,.lst []),none,none,none])
   (λi U=>∃v o,∃cs:List Int,cs.length=i/\(∀c∈cs,0<=c/\c<1000000000039)/\0<=v/\v<1000000000039/\U=[some (.sh,scD ns),some (.sh,.int 60),some (.deep,.int v),o1,some (.deep,scD cs),o,none,none]) (pj (by simp;exact fA (by decide))) ⟨v1,none,[],rfl,(λ_ h=>nomatch h),g1,g2,rfl⟩ (by
    rintro i U hi ⟨v,o,cs,hl,hb,h1,h2,rfl⟩;have hi':(i:Int)<1000000:=by omega
    have hi0:(-1000000:Int)<i:=by omega
    refine⟨_,(av (cx (ax (d:=.int ((v*v+48271*i+5)%1000000000039)) ?_ rfl))).trans (av (ww (ds:=cs.map D.int) (ds0:=cs.map D.int) (c0:=.deep) (d:=.int ((v*v+48271*i+5)%1000000000039)) rfl (ax rfl rfl) rfl (by rw[length_map,hl];exact Nat.lt_trans (show i+1<1001 by omega) (by decide)))),
     ⟨(v*v+48271*i+5)%1000000000039,some (.sh,.int i),cs++[(v*v+48271*i+5)%1000000000039],by simp[hl],λc hc=>(mem_append.mp hc).elim (hb c) λh=>by rw[mem_singleton.mp h];exact md _ (by decide),Int.emod_nonneg _ (by decide),Int.emod_lt_of_pos _ (by decide),?_⟩⟩
    ·simp[ju,ud h1 h2,qh hi0 hi'];exact ez (by decide)
    ·simp only[scD,List.map_append];rfl)
  obtain⟨U2,e2,v2,o2,cs2,l2,b2,_,_,rfl⟩:=L2;have L3:=mj (J:=jX (r1F (aa (biF aS (aa (va 0) ae)) ae)) (biF noD (aa (biF aS (aa (va 0) ae)) ae))) (s:=5) (v:=λi=>(i:Int)) (n:=ns.length) (F:=(ah (aN 7 (evX (af bb (af cW (af ixD (va 4) (af aM (va 5) (va 1))) (cI 1000003)) (va 5)) (p8 (orO (af cW (af ixD (va 4) (af aM (va 5) (va 1))) (cI 1000003)) (lsF noV)) (va 5)) noV)) (ah (gN 4 (af aM (va 5) (va 1)) (evX (af aM (af bb (va 7) (af aM (af ixD (va 0) (va 5)) (af cu (cI 10) (cI 60)))) (cI 1000000000039)) noV noV) (af aM (af bb (va 7) (af aM (af ixD (va 0) (va 5)) (af cu (cI 10) (cI 60)))) (cI 1000000000039))) nxE)))
   (U:=[some (.sh,scD ns),some (.sh,.int 60),some (.deep,.int v2),o1,some (.deep,scD cs2),o2,none,none])
   (λi U=>∃o o7,∃cs:List Int,cs.length=60/\(∀c∈cs,0<=c/\c<1000000000039)/\U=[some (.sh,scD ns),some (.sh,.int 60),some (.deep,.int v2),o1,some (.deep,scD cs),o,none,o7]) (pj (by simp;exact fA (by omega))) ⟨o2,none,cs2,l2,b2,rfl⟩ (by
    rintro i U hi ⟨o,o7,cs,hl,hb,rfl⟩;have hk:=md (i:Int) (show(0:Int)<60 by decide);obtain⟨x,ex⟩:=iN (ns:=cs) hk.1 (by rw[hl];exact hk.2);obtain⟨y,ey⟩:=iN (ns:=ns) (i:=(i:Int)) (by omega) (by omega);refine⟨_,(av (cx (ax (d:=.int (x*1000003+i)) ?_ rfl))).trans (av (z8 (kZ (ds:=cs.map D.int) (k:=(i:Int)%60) (d:=.int ((x*1000003+i+y%P)%1000000000039)) (ax ?_ rfl) rfl ?_ hk.1 (by rw[length_map,hl];exact hk.2)))),
     ⟨some (.sh,.int i),some (.deep,.int (x*1000003+i)),cs.set ((i:Int)%60).toNat ((x*1000003+i+y%P)%1000000000039),by simp[hl],(λc hc=>(List.mem_or_eq_of_mem_set hc).elim (hb c) λh=>by rw[h];exact md _ (by decide)),?_⟩⟩
    ·simp[ju,iC _ 60,ex,zh]
    ·simp[ju,ey,eP,ez P0];exact ez (by decide)
    ·simp[ju,iC _ 60]
    ·simp only[scD,List.map_set];rfl)
  obtain⟨U3,e3,o3,o7,cs3,l3,b3,rfl⟩:=L3;refine⟨cs3.map λc=>c*c%998244353/7,by rw[length_map,l3],(λc hc=>by obtain⟨x,_,rfl⟩:=List.mem_map.mp hc;exact Int.ediv_nonneg (Int.emod_nonneg _ (by decide)) (by decide)),aP rfl ?_⟩;unfold de;rw[hs];refine(av ((iI hT).trans rfl)).trans ((av (cx (ax (d:=.int 7919) rfl rfl))).trans ((av e1).trans ((av (cx (evX_lfs (d:=.lst []) (ds:=[]) (by simp) rfl (by simp) rfl))).trans ((av e2).trans ((av e3).trans ((av (cx (evX_lfs (d:=.lst []) (ds:=[]) (by simp) rfl (by simp) rfl))).trans ?_))))));refine FE (xs:=cs3) (mk:=D.int) (λi U=>∃o,U=[some (.sh,scD ns),some (.sh,.int 60),some (.deep,.int v2),o1,some (.sh,scD cs3),o3,some (.deep,scD ((cs3.take i).map λc=>c*c%998244353/7)),o]) ?_ ?_ ⟨o7,rfl⟩ ?_ ?_
  ·simp only[set_cons_succ,set_cons_zero,zY,jX_none,aH,ar,ao];rfl
  ·simp only[set_cons_succ,set_cons_zero];rfl
  ·rintro i x U hx ⟨o,rfl⟩;have hb:=b3 x (mem_of_getElem? hx);refine⟨_,(av (j0 (ds:=((cs3.take i).map λc=>c*c%998244353/7).map D.int) (ds0:=((cs3.take i).map λc=>c*c%998244353/7).map D.int) (c0:=.deep) (d:=.int (x*x%998244353/7)) rfl (ax ?_ rfl) rfl ?_)),⟨some (.sh,.int x),?_⟩⟩
   ·simp[ju,ud hb.1 hb.2,ez,iz]
   ·rw[length_map,length_map];rw[List.length_take];exact lt_of_le_of_lt (show min i cs3.length+1<=1000 by omega) (by decide)
   ·rw[List.take_add_one,hx];simp only[scD,List.map_append];rfl
  ·rintro U ⟨o,rfl⟩;rw[List.take_length];rfl
end K16
namespace K16
open PySem PySem.Spec PyProof.Rows L2
def i7 (aI:List D->Option Sl):Ev->Option Out:=(ah (ifS (orQ (dY (trF (biF gB (aa (va 0) (aa (cT "tuple") ae))))) (orQ (au (af (bi true) (biF aS (aa (va 0) ae)) (cI 2))) (au (af tm (af ixD (va 0) (cI 0)) (cD (.tup [(.str "any"),(.str "come"),(.str "row")])))))) (ah (cw (evX (cB false) noV noV)) nxE) nxE) (ah (ifS (orQ (dY (trF (biF gB (aa (af ixD (va 0) (cI 1)) (aa (tpF (aa (cT "list") (aa (cT "tuple") ae))) ae))))) (au (af (bi false) (biF aS (aa (af ixD (va 0) (cI 1)) ae)) (cI 0)))) (ah (cw (evX (cB false) noV noV)) nxE) nxE) (ah (cw (evX (biF n4 (aa (lsF (aw [2] (jX noV (af ixD (va 0) (cI 1))) (gNm 2) tQ (clF aI (aa (va 2) (aa (cI 0) (aa (af lm (va 1) (cI 1)) ae)))))) ae)) noV (fNo (aa (lsF (aw [2] (jX noV (af ixD (va 0) (cI 1))) (gNm 2) tQ (clF aI (aa (va 2) (aa (cI 0) (aa (af lm (va 1) (cI 1)) ae)))))) ae)))) nxE)))
def cO:Ev->Option Out:=(ah (aN 1 (evX (lsF (dpF ae)) (dpF ae) (fLs ae))) (ah (frY 0 (jX noV (va 0)) (eTp 2 (gd (eNm 2) (gd (eNm 3) rB))) (ah (p9 1 (va 3)) nxE)) (ah (rtN 1) nxE)))
def fV (aW:List D->Option Sl) (c7:List D->Option Sl):Ev->Option Out:=(ah (ifS (orQ (dY (trF (biF gB (aa (va 0) (aa (tpF (aa (cT "list") (aa (cT "tuple") ae))) ae))))) (dY (trF (biF n4 (aa (lsF (aw [2] (jX noV (va 0)) (gNm 2) tQ (clF c7 (aa (va 2) (aa (va 1) ae))))) ae))))) (ah (cw (evX (cB false) noV noV)) nxE) nxE) (ah (cw (evX (af (bi false) (liG (aa (clF aW (aa (va 0) ae)) ae) (s1F (aa (clF aW (aa (va 0) ae)) ae))) (liG (aa (biF noD (aa (va 1) ae)) ae) (orO (lrF (aa (va 1) ae)) (l1F (aa (biF noD (aa (va 1) ae)) ae))))) noV noV)) nxE))
def cP:Ev->Option Out:=zQ (aa (va 1) λ_=>some []) (tpF (aa (af ixD (af ixD (va 1) (va 0)) (cI 1)) (aa (va 0) ae))) 0
def d7 (bN:List D->Option Sl):Ev->Option Out:=(ah (ifS (au (af (bi false) (va 1) (cS "any"))) (ah (cw (evX (lsF (dpF (aa (liG (aa (va 2) ae) (s1F (aa (va 2) ae))) ae))) (dpF (aa (liG (aa (va 2) ae) (s1F (aa (va 2) ae))) ae)) (fLs (aa (frX (liG (aa (va 2) ae) (s1F (aa (va 2) ae))) (s1F (aa (va 2) ae)) (fNo (aa (va 2) ae))) ae)))) nxE) nxE) (ah (aN 3 (evX (ifF (au (af (bi false) (va 1) (cS "row"))) (va 2) (clF bN (aa (va 0) (aa (va 2) ae)))) noV noV)) (ah (cw (evX (lsF (aw [4] (jX noV (va 3)) (gNm 4) tQ (lsF (dpF (aa (va 4) ae))))) (aw [4] (jX noV (va 3)) (gNm 4) tQ (lsF (dpF (aa (va 4) ae)))) (fCo [4] (jX noV (va 3)) (gNm 4) tQ (frX (lsF (dpF (aa (va 4) ae))) (dpF (aa (va 4) ae)) (fLs (aa (frX (va 4) noV noV) ae)))))) nxE)))
def kdS:Nat->Str
 |0=>"any"
 |1=>"come"
 |_=>"row"
abbrev Gr:=Nat×List Nat
def grD (g:Gr):D:=.tup [.str (kdS g.1),aA g.2]
def gsD (gs:List Gr):D:=.lst (gs.map grD)
def ltD' (p:Int×Int):D:=.tup [.int p.1,.int p.2]
def lsD' (ls:Lts):D:=.lst (ls.map ltD')
def lvD (lv:List (List Int)):D:=.lst (lv.map scD)
def bR (gs:List Gr):List Nat:=gs.flatMap (·.2)
structure Good (m:Nat) (gs:List Gr):Prop where
 pm:(bR gs).Perm (List.range m)
 ne:∀g∈gs,g.2≠[]
 kd:∀g∈gs,g.1<3
 le:m<=24
theorem Aa (hg:g∈gs) (ha:a∈g.2):a∈bR gs:=List.mem_flatMap.mpr ⟨g,hg,ha⟩
theorem Good.lt (h:Good m gs) (hg:g∈gs) (ha:a∈g.2):a<m:=List.mem_range.mp (h.pm.mem_iff.mp (Aa hg ha))
theorem Good.len (h:Good m gs):(bR gs).length=m:=by rw[h.pm.length_eq,length_range]
theorem gT:∀ {gs:List Gr},(∀g∈gs,g.2≠[])->gs.length<=(bR gs).length
 |[],_=>le_refl _
 |g::gs,h=>by
  have ih:=gT (gs:=gs) λx hx=>h x (mem_cons_of_mem _ hx);have:=List.length_pos_iff.mpr (h g mem_cons_self);show gs.length+1<=(g.2++bR gs).length;rw[length_append];omega
theorem uk (hg:g∈gs):g.2.length<=(bR gs).length:=by
 induction gs with
 |nil=>cases hg
 |cons x gs ih=>
  show g.2.length<=(x.2++bR gs).length;rw[length_append];rcases mem_cons.mp hg with rfl|h
  ·omega
  ·have:=ih h;omega
theorem vA (r:List Nat):cA (aA r)=some (r.map λ(k:Nat)=>D.int (k:Int)):=rfl
theorem vB (r:List Nat):aS [aA r]=some (.int (r.length:Int)):=by
 simp only[nw,vA,Option.bind_some,length_map]
theorem FJ {β:Type} {xs:List β} {mk} (I:Nat->Ev->Prop) (hJ:J (shv U)=some (xs.map mk)) (h0:I 0 U) (hs:∀ (i:Nat) (x:β) (U:Ev),xs[i]?=some x->I i U->∃U',(tg (mk x) U).bind F=some (.nx U')/\I (i+1) U') (k:∀U',I xs.length U'->G U'=out):ah (frY j J tg F) G U=out:=by
 have hs':∀ (i:Nat) (d:D) (U:Ev),(xs.map mk)[i]?=some d->I i U->∃U',(tg d U).bind F=some (.nx U')/\I (i+1) U':=λi d U hd hi=>by
  rw[getElem?_map]at hd;cases hx:xs[i]? with
  |none=>rw[hx]at hd;cases hd
  |some x=>rw[hx]at hd;cases hd;exact hs i x U hx hi
 obtain⟨U',e,i⟩:=fw (step:=lu tg F) (xs.map mk) I _ h0 hs';rw[length_map]at i;have e':gG J tg F U=some (.nx U'):=by unfold gG;rw[hJ];exact e
 refine(av ?_).trans (k _ i);unfold frY orO;rw[e']
def ul (f:List D->Option Sl):Prop:=∀ (g:Gr) (m:Nat),g.1<3->g.2≠[]->(∀a∈g.2,a<m)->g.2.length<=24->f [grD g,.int (m:Int)]=some (.deep,.bl true)
theorem Cv (hw:jt w):ul (aO 2 3 (i7 w)):=λ⟨k,r⟩ m hk hne ha hl=>by
 have hs:az 3 [grD (k,r),.int (m:Int)]=[some (.sh,grD (k,r)),some (.sh,.int (m:Int)),none]:=rfl;have i1:ixD (grD (k,r)) (.int 1)=some (aA r):=rfl;have hm:aw [2] (jX noV (af ixD (va 0) (cI 1))) (gNm 2) tQ (clF w (aa (va 2) (aa (cI 0) (aa (af lm (va 1) (cI 1)) ae)))) [some (grD (k,r)),some (.int (m:Int)),none]=some (r.map λ_=>.bl true):=by
  refine aU (xs:=r) (mk:=λ(k:Nat)=>D.int (k:Int)) (out:=λ_=>.bl true) (by simp only[jX_none,bj,fR,aH,ao,Option.bind_some,i1,vA]) (λa h=>?_) (lt_of_le_of_lt hl (by decide));have h1:=ha a h;have h2:(0:Int)<=(a:Int):=by omega
  have h3:(a:Int)<=(m:Int)-1:=by omega
  simp only[bZ,bg,bv,eB,lB,set_cons_succ,set_cons_zero,Option.bind_some,if_true,cK,ai,aq,aH,ao,ar,fR,bj,vj,hw (a:Int) 0 ((m:Int)-1),aR,h2,h3,decide_true];rfl
 refine aP rfl ?_;rw[hs];unfold i7;have h0:¬ (r.length:Int)=0:=by
  have:0<r.length:=List.length_pos_iff.mpr hne;omega
 refine gh ?_ (gh ?_ (dG (ax ?_ rfl)))
 ·rcases(show k=0\/k=1\/k=2 by have:k<3:=hk;omega)with rfl|rfl|rfl<;>rfl
 ·simp only[aG,aL,aB,vi,jZ,pi,dN,bj,fz,ai,aq,aH,ao,iJ,Iz,fR,Option.bind_some,i1,cY,Dl,zj,show cC (aA r)=some "list"from rfl,List.any_cons,List.any_nil,zk,iw,vB];simp[show¬r=[]from hne]
 ·simp only[aG,aL,aB,fz,ai,aq,dF,hm,map_some,Option.bind_some,nz r λ_=>true];simp
def nD (f:List D->Option Sl):Prop:=∀gs:List Gr,(bR gs).length<=24->f [gsD gs]=some (.deep,aA (bR gs))
theorem wE:nD (aO 1 4 cO):=λgs h24=>by
 have hs:az 4 [gsD gs]=[some (.sh,gsD gs),none,none,none]:=rfl;refine aP rfl ?_;rw[hs];unfold cO;refine bw (evX_lfs (d:=.lst []) (ds:=[]) (by simp) rfl (by simp) rfl) ?_;refine FJ (xs:=gs) (mk:=grD) (λi U=>∃o2 o3,U=[some (.sh,gsD gs),some (.deep,aA (bR (gs.take i))),o2,o3]) ?_ ⟨none,none,rfl⟩ ?_ ?_
 ·simp only[set_cons_succ,set_cons_zero,zY,jX_none,aH,ao];rfl
 ·rintro i g U hg ⟨o2,o3,rfl⟩;have hi:i<gs.length:=(List.getElem?_eq_some_iff.mp hg).1;have hl:(bR (gs.take i)).length+g.2.length<=24:=by
   have e:bR gs=bR (gs.take i)++(g.2++bR (gs.drop (i+1))):=by
    conv=>lhs;rw[<-List.take_append_drop i gs,List.drop_eq_getElem_cons hi]
    rw[(List.getElem?_eq_some_iff.mp hg).2];unfold bR;rw[List.flatMap_append,List.flatMap_cons]
   rw[e,length_append,length_append]at h24;omega
  refine⟨_,(av (wC (ds:=(bR (gs.take i)).map λ(k:Nat)=>D.int (k:Int)) (es:=g.2.map λ(k:Nat)=>D.int (k:Int)) rfl rfl ?_ ?_)).trans rfl,⟨some (.sh,.str (kdS g.1)),some (.sh,aA g.2),?_⟩⟩
  ·exact eA λd hd=>by obtain⟨p,_,rfl⟩:=List.mem_map.mp hd;rfl
  ·rw[length_map,length_map];exact lt_of_le_of_lt hl (by decide)
  ·rw[List.take_add_one,hg];have e:bR (gs.take i++(some g).toList)=bR (gs.take i)++g.2:=by
    unfold bR;rw[List.flatMap_append];simp
   rw[e];unfold aA;rw[List.map_append];rfl
 ·rintro U ⟨o2,o3,rfl⟩;rw[List.take_length];rfl
theorem um (r:List Nat):lfL (r.map λ(k:Nat)=>D.int (k:Int))=true:=eA λd hd=>by obtain⟨p,_,rfl⟩:=List.mem_map.mp hd;rfl
theorem jx (r:List Int):lfL (r.map D.int)=true:=eA λd hd=>by obtain⟨p,_,rfl⟩:=List.mem_map.mp hd;rfl
def FK (f:List D->Option Sl):Prop:=∀ (m:Nat) (gs:List Gr),Good m gs->f [gsD gs,.int (m:Int)]=some (.deep,.bl true)
theorem Jn (h1:nD gl) (h2:ul ig):FK (aO 2 3 (fV gl ig)):=λm gs G=>by
 have hs:az 3 [gsD gs,.int (m:Int)]=[some (.sh,gsD gs),some (.sh,.int (m:Int)),none]:=rfl;have hfl:=G.len;have hle:=G.le;have hgl:=gT G.ne;have y:cA (gsD gs)=some (gs.map grD):=rfl;have hm:aw [2] (jX noV (va 0)) (gNm 2) tQ (clF ig (aa (va 2) (aa (va 1) ae))) [some (gsD gs),some (.int (m:Int)),none]=some (gs.map λ_=>.bl true):=by
  refine aU (xs:=gs) (mk:=grD) (out:=λ_=>.bl true) (by simp only[jX_none,aH,ao,Option.bind_some,y]) (λg h=>?_) (lt_of_le_of_lt (show gs.length<=24 by omega) (by decide));have e:=h2 g m (G.kd g h) (G.ne g h) (λa ha=>G.lt h ha) (by have:=uk h;omega);simp only[bZ,bg,bv,eB,lB,set_cons_succ,set_cons_zero,Option.bind_some,if_true,cK,ai,aq,aH,ao,ar,e,aR]
 have e1:=h1 gs (by omega);have s1:s1F (aa (clF gl (aa (va 0) ae)) ae) [some (gsD gs),some (.int (m:Int)),none]=some ((List.range m).map λ(k:Nat)=>D.int (k:Int)):=by
  show(aa (clF gl (aa (va 0) ae)) ae _).bind kX=_;simp only[ai,aq,cK,aH,ao,Option.bind_some,e1,aR,zX G.pm hle]
 refine aP rfl ?_;rw[hs];unfold fV;refine gh ?_ (dG (ax ?_ rfl))
 ·simp only[aG,aL,aB,vi,jZ,pi,fz,ai,aq,aH,ao,iJ,Iz,Option.bind_some,cY,Dl,zj,show cC (gsD gs)=some "list"from rfl,List.any_cons,List.any_nil,zk,iw,dF,hm,map_some,nz gs λ_=>true];simp
 ·simp only[aG,aL,aB,bj];rw[lj s1,lj (Jf hle (by simp only[ai,aq,aH,ao,ar,Option.bind_some]))];exact FH false (List.range m)
def izs (r:List Nat):List Int:=r.map λ(k:Nat)=>(k:Int)
theorem FL (r:List Nat):aA r=scD (izs r):=by
 unfold aA scD izs;rw[List.map_map];rfl
abbrev fbK:Vv->Option D:=tpF (aa (af ixD (af ixD (va 1) (va 0)) (cI 1)) (aa (va 0) ae))
theorem Jo {a:Nat} (h:a<ls.length):fbK [some (.int (a:Int)),some (lsD' ls)]=some (lE ls (a:Int)):=by
 have e:ixD (lsD' ls) (.int (a:Int))=some (ltD' (ls.getD a (0,0))):=by
  have q:=rW (mk:=ltD') (xs:=ls) (i:=a) (x:=ls[a]) (getElem?_eq_getElem h);rw[List.getD_eq_getElem?_getD,getElem?_eq_getElem h];exact q
 have e2:ixD (ltD' (ls.getD a (0,0))) (.int 1)=some (.int (a8 ls (a:Int))):=rfl;show tpF _ _=_;simp only[iJ,ai,aq,bj,aH,ao,ar,fR,Option.bind_some,e,e2,cY];rfl
theorem pB:∀ {r:List Nat},(∀a∈r,a<ls.length)->lh fbK (lsD' ls) (r.map λ(k:Nat)=>D.int (k:Int))=some ((izs r).map (lE ls))
 |[],_=>rfl
 |a::r,h=>by
  show(fbK [some (.int (a:Int)),some (lsD' ls)]).bind (λk=>(lh fbK (lsD' ls) (r.map λ(k:Nat)=>D.int (k:Int))).bind λks=>some (k::ks))=_;rw[Jo (h a mem_cons_self),pB λb hb=>h b (mem_cons_of_mem _ hb)];rfl
theorem wF (ls:Lts) (l:List Int):iW (l.map (lE ls)):=⟨[none,none],by simp,λd hd=>by
 obtain⟨a,_,rfl⟩:=List.mem_map.mp hd;exact⟨_,rfl⟩⟩
def Ab (f:List D->Option Sl):Prop:=∀ (ls:Lts) (r:List Nat),lC ls->(∀a∈r,a<ls.length)->r.length<=24->f [lsD' ls,aA r]=some (.deep,scD (gi ls (izs r)))
theorem FM:Ab (aO 2 2 cP):=λls r hl ha h24=>by
 have hs:az 2 [lsD' ls,aA r]=[some (.sh,lsD' ls),some (.sh,aA r)]:=rfl;refine aP rfl ?_;rw[hs];have e:ug (aa (va 1) λ_=>some []) fbK 0 [some (lsD' ls),some (aA r)]=some ((gi ls (izs r)).map D.int):=by
  show uf fbK 0 [some (lsD' ls),some (aA r)] [aA r]=_;show((some (lsD' ls)).bind λdy=>(lh fbK dy (r.map λ(k:Nat)=>D.int (k:Int))).bind λks=>if(r.map λ(k:Nat)=>D.int (k:Int)).length<64/\iW ks then some ((plcK ks).map λj=>(r.map λ(k:Nat)=>D.int (k:Int)).getD j .non)else none)=_;rw[Option.bind_some,pB ha,Option.bind_some,if_pos ⟨by rw[length_map];omega,wF ls _⟩];have q:=z0 hl (izs r);rw[show(izs r).map D.int=r.map λ(k:Nat)=>D.int (k:Int)by unfold izs;rw[List.map_map];rfl]at q;rw[q]
 unfold cP zQ;refine dG (U':=[some (.sh,lsD' ls),some (.sh,aA r)]) ?_;have e4:(λU=>gE (ug (aa (va 1) λ_=>some []) fbK 0 U)) (vw [some (.sh,lsD' ls),some (.sh,aA r)])=some (scD (gi ls (izs r))):=by
  show gE (ug (aa (va 1) λ_=>some []) fbK 0 [some (lsD' ls),some (aA r)])=_;rw[e];unfold gE;rw[Option.bind_some,if_pos (jx _)];rfl
 have e5:fN (λU=>gE (ug (aa (va 1) λ_=>some []) fbK 0 U)) [some (.sh,lsD' ls),some (.sh,aA r)]=some ((.deep,scD (gi ls (izs r))),[some (.sh,lsD' ls),some (.sh,aA r)]):=by
  unfold fN;rw[e4];rfl
 show orO (fN λU=>gE (ug (aa (va 1) λ_=>some []) fbK 0 U)) _ _=_;unfold orO;rw[e5]
def levG (ls:Lts) (g:Gr):List (List Int):=if g.1=0 then[srtZ (izs g.2)]else if g.1=1 then(gi ls (izs g.2)).map ([·])else(izs g.2).map ([·])
theorem sr (h:r.length<=24):kX [aA r]=some ((srtZ (izs r)).map D.int):=by
 show((bE (r.map λ(k:Nat)=>D.int (k:Int))).bind λns=>if ns.length<64 then some ((srtZ ns).map D.int)else none)=_;rw[i6,Option.bind_some,if_pos (by rw[length_map];omega)];rfl
theorem uo {R L Sp} (h:R U=some d) (f:lfD d=true):frX R L Sp U=some d:=by
 unfold frX orO;simp only[h,lfO,Option.bind_some,f,if_true]
theorem j9 {R L Sp} (h:R U=some (.lst ds)) (hl:L U=some ds) (fl:lfL ds=true):frX R L Sp U=some (.lst ds):=by
 unfold frX orO;simp only[h,hl,lfO,gE,Option.bind_some,BU,fl,if_true];rfl
theorem seq_sc (ns:List Int):cA (scD ns)=some (ns.map D.int):=rfl
theorem vC (hl:ns.length<=24) (hn:ns≠[]) (o4:Option Sl):evX (lsF (aw [4] (jX noV (va 3)) (gNm 4) tQ (lsF (dpF (aa (va 4) ae))))) (aw [4] (jX noV (va 3)) (gNm 4) tQ (lsF (dpF (aa (va 4) ae)))) (fCo [4] (jX noV (va 3)) (gNm 4) tQ (frX (lsF (dpF (aa (va 4) ae))) (dpF (aa (va 4) ae)) (fLs (aa (frX (va 4) noV noV) ae))))
  [some (.sh,ls),some (.sh,d1),some (.sh,d2),some (.sh,scD ns),none]=some ((.deep,lvD (ns.map ([·]))),[some (.sh,ls),some (.sh,d1),some (.sh,d2),some (.sh,scD ns),none]):=by
 have big24:ns.length<big:=lt_of_le_of_lt hl (by decide)
 have h1:aw [4] (jX noV (va 3)) (gNm 4) tQ (lsF (dpF (aa (va 4) ae))) [some ls,some d1,some d2,some (scD ns),none]=some (ns.map λa=>.lst [.int a]):=by
  refine aU (xs:=ns) (mk:=D.int) (out:=λa=>.lst [.int a]) (by simp only[jX_none,aH,ao,ar,Option.bind_some,seq_sc]) (λa h=>?_) big24;simp only[bZ,bg,bv,eB,lB,set_cons_succ,set_cons_zero,Option.bind_some,if_true,dF,iK,ai,aq,aH,ao,ar,iY,map_some]
 have h2:aw [4] (jX noV (va 3)) (gNm 4) tQ (frX (lsF (dpF (aa (va 4) ae))) (dpF (aa (va 4) ae)) (fLs (aa (frX (va 4) noV noV) ae))) [some ls,some d1,some d2,some (scD ns),none]=some (ns.map λa=>.lst [.int a]):=by
  refine aU (xs:=ns) (mk:=D.int) (out:=λa=>.lst [.int a]) (by simp only[jX_none,aH,ao,ar,Option.bind_some,seq_sc]) (λa h=>?_) big24;have e:frX (lsF (dpF (aa (va 4) ae))) (dpF (aa (va 4) ae)) (fLs (aa (frX (va 4) noV noV) ae)) [some ls,some d1,some d2,some (scD ns),some (.int a)]=some (.lst [.int a]):=
   j9 (by simp only[dF,iK,ai,aq,aH,ao,ar,Option.bind_some,iY,map_some]) (by simp only[iK,ai,aq,aH,ao,ar,Option.bind_some,iY]) rfl
  simp only[bZ,bg,bv,eB,lB,set_cons_succ,set_cons_zero,Option.bind_some,if_true,e]
 have e3:lvD (ns.map ([·]))=.lst (ns.map λa=>.lst [.int a]):=by unfold lvD;rw[List.map_map];rfl
 rw[e3]
 refine jv (d:=.lst (ns.map λa=>.lst [.int a])) (ds:=ns.map λa=>.lst [.int a]) ?_ rfl ?_ ?_ ?_
 ·simp only[aG,aL,aB,dF,h1,map_some]
 ·simp only[aG,aL,aB,h1]
 ·cases ns with
  |nil=>exact absurd rfl hn
  |cons a ns=>rfl
 ·show(aw _ _ _ _ _ _).bind _=_;simp only[aG,aL,aB,h2,Option.bind_some]
def sGL (f:List D->Option Sl):Prop:=∀ (ls:Lts) (g:Gr),lC ls->g.1<3->g.2≠[]->(∀a∈g.2,a<ls.length)->g.2.length<=24->f [lsD' ls,.str (kdS g.1),aA g.2]=some (.deep,lvD (levG ls g))
theorem Lx (hc:Ab co):sGL (aO 3 5 (d7 co)):=λls ⟨k,r⟩ hl hk hne ha h24=>by
 have hs:az 5 [lsD' ls,.str (kdS k),aA r]=[some (.sh,lsD' ls),some (.sh,.str (kdS k)),some (.sh,aA r),none,none]:=rfl;have hne':r≠[]:=hne;have h24':r.length<=24:=h24;have il:(izs r).length=r.length:=length_map _;have ine:izs r≠[]:=λz=>hne' (by
  have:=congrArg List.length z;rw[il]at this;exact List.length_eq_zero_iff.mp this)
 refine aP rfl ?_;rw[hs];unfold d7;rcases(show k=0\/k=1\/k=2 by have:k<3:=hk;omega)with rfl|rfl|rfl
 ·have s1:s1F (aa (va 2) ae) [some (lsD' ls),some (.str (kdS 0)),some (aA r),none,none]=some ((srtZ (izs r)).map D.int):=by
   show(aa (va 2) ae _).bind kX=_;simp only[ai,aq,aH,ao,ar,Option.bind_some,sr h24']
  refine dM ((nt rfl).trans (dG (U':=[some (.sh,lsD' ls),some (.sh,.str (kdS 0)),some (.sh,aA r),none,none]) ?_));show evX _ _ _ _=some ((.deep,.lst [scD (srtZ (izs r))]),_);refine jv (d:=.lst [scD (srtZ (izs r))]) (ds:=[scD (srtZ (izs r))]) ?_ rfl ?_ rfl ?_
  ·simp only[aG,aL,aB,dF,iK,ai (a:=liG _ _),lj s1,aq,Option.bind_some,iY,map_some];rfl
  ·simp only[aG,aL,aB,iK,ai (a:=liG _ _),lj s1,aq,Option.bind_some,iY];rfl
  ·have e:=j9 (Sp:=fNo (aa (va 2) ae)) (lj (xs:=aa (va 2) ae) s1) s1 (jx _);simp only[aG,aL,aB,Dk,ai (a:=frX _ _ _),e,aq,Option.bind_some,iY];rfl
 ·have e:=hc ls r hl ha h24';refine gh rfl (bw (s:=(.sh,scD (gi ls (izs r)))) (U':=[some (.sh,lsD' ls),some (.sh,.str (kdS 1)),some (.sh,aA r),none,none]) (ub ?_ rfl rfl rfl rfl ?_) (dG (U':=[some (.sh,lsD' ls),some (.sh,.str (kdS 1)),some (.sh,aA r),some (.sh,scD (gi ls (izs r))),none]) ?_))
  ·show(ifF _ _ _ [some (lsD' ls),some (.str (kdS 1)),some (aA r),none,none])=_;rw[zg,show au (af (bi false) (va 1) (cS "row")) [some (lsD' ls),some (.str (kdS 1)),some (aA r),none,none]=some false from rfl];simp only[Option.bind_some,Bool.false_eq_true,if_false,cK,ai,aq,aH,ao,ar,e,aR]
  ·show(ifF _ _ _ [some (lsD' ls),some (.str (kdS 1)),some (aA r),none,none])=_;rw[zg,show au (af (bi false) (va 1) (cS "row")) [some (lsD' ls),some (.str (kdS 1)),some (aA r),none,none]=some false from rfl];simp only[Option.bind_some,Bool.false_eq_true,if_false,cK,ai,aq,aH,ao,ar,e,aR]
  ·have cl:(gi ls (izs r)).length=r.length:=by rw[(j8 hl _).length_eq,il]
   exact vC (by omega) (λz=>by rw[z]at cl;exact hne' (List.length_eq_zero_iff.mp cl.symm)) none
 ·refine gh rfl (bw (s:=(.sh,scD (izs r))) (U':=[some (.sh,lsD' ls),some (.sh,.str (kdS 2)),some (.sh,aA r),none,none]) (by rw[<-FL];exact ub rfl rfl rfl rfl rfl rfl) (dG (U':=[some (.sh,lsD' ls),some (.sh,.str (kdS 2)),some (.sh,aA r),some (.sh,scD (izs r)),none]) ?_));exact vC (by omega) ine none
end K16
namespace K16
open PySem PySem.Spec PyProof.Rows L2
def eE (bO:List D->Option Sl):Ev->Option Out:=(ah (aN 2 (evX (lsF (dpF ae)) (dpF ae) (fLs ae))) (ah (frY 1 (jX noV (va 1)) (eTp 2 (gd (eNm 3) (gd (eNm 4) rB))) (ah (p9 2 (clF bO (aa (va 0) (aa (va 3) (aa (va 4) ae))))) nxE)) (ah (rtN 2) nxE)))
def fW:Ev->Option Out:=(ah (aN 1 (evX noV noV dcN)) (ah (frF (jX (enF (aa (va 0) ae)) (biF noD (aa (va 0) ae))) (eTp 2 (gd (eNm 2) (gd (eNm 3) rB))) (ah (frF (jX noV (va 3)) (eNm 4) (ah (gN 1 (va 4) (evX (va 2) noV noV) (va 2)) nxE)) nxE)) (ah (rtN 1) nxE)))
abbrev Wd:=List Key×List D
def wD' (w:Wd):D:=.dct w.1 w.2
def pu (n:Int) (w:Wd) (a:Int):Wd:=(gJ w.1 (.inl a),gK w.1 w.2 (.inl a) (.int n))
def iP (n:Int) (l:List Int) (w:Wd):Wd:=l.foldl (pu n) w
def lF:List (List Int)->Nat->Wd->Wd
 |[],_,w=>w
 |l::lv,n,w=>lF lv (n+1) (iP (n:Int) l w)
theorem pC:∀ (lv:List (List Int)) (l:List Int) (n:Nat) (w:Wd),lF (lv++[l]) n w=iP ((n+lv.length:Nat):Int) l (lF lv n w)
 |[],l,n,w=>rfl
 |x::lv,l,n,w=>by
  show lF (lv++[l]) (n+1) _=_;rw[pC lv l (n+1)];show iP ((n+1+lv.length:Nat):Int) l _=iP ((n+(lv.length+1):Nat):Int) l _;rw[show n+1+lv.length=n+(lv.length+1)by omega];rfl
structure WOk (k:Nat) (w:Wd):Prop where
 len:w.1.length=w.2.length
 sz:w.1.length<=k
 lf:lfL w.2=true
theorem Jp (h:WOk k w) (n a:Int):WOk (k+1) (pu n w a):=by
 have hl:=h.len;have hz:=h.sz;refine⟨?_,?_,ym rfl h.lf⟩
 ·show(gJ w.1 (.inl a)).length=(gK w.1 w.2 (.inl a) (.int n)).length;unfold gJ gK;split
  ·rw[List.length_zipWith];omega
  ·rw[length_append,length_append];show _+1=_+1;omega
 ·show(gJ w.1 (.inl a)).length<=k+1;unfold gJ;split
  ·omega
  ·rw[length_append];show _+1<=_;omega
theorem qr:∀ {l:List Int} {k:Nat} {w:Wd},WOk k w->WOk (k+l.length) (iP n l w)
 |[],k,w,h=>h
 |a::l,k,w,h=>by
  have:=qr (n:=n) (l:=l) (Jp h n a);rw[show k+1+l.length=k+(a::l).length by rw[length_cons];omega]at this;exact this
theorem Ac:∀ {lv:List (List Int)} {n k:Nat} {w:Wd},WOk k w->WOk (k+lv.flatten.length) (lF lv n w)
 |[],n,k,w,h=>h
 |l::lv,n,k,w,h=>by
  have:=Ac (lv:=lv) (n:=n+1) (qr (n:=(n:Int)) (l:=l) h);rw[show k+l.length+lv.flatten.length=k+(l::lv).flatten.length by rw[List.flatten_cons,length_append];omega]at this;exact this
theorem has_mem:qa ks k=true↔k∈ks:=by
 unfold qa;rw[List.any_eq_true];constructor
 ·rintro⟨j,h,e⟩;rw[<-of_decide_eq_true e];exact h
 ·intro h;exact⟨k,h,decide_eq_true rfl⟩
def Cw (lv:List (List Int)):D:=wD' (lF lv 0 ([],[]))
theorem ok0:WOk 0 (([],[]):Wd):=⟨rfl,le_refl _,rfl⟩
theorem vD {R L Sp} (hw:WOk m w) (hm:m<=100) (hU:eX U i=some (.deep,wD' w)) (hk:k (vw U)=some (.int a)) (hR:R (vw U)=some (.int n)):gN i k (evX R L Sp) R U=some (.nx (U.set i (some (.deep,wD' (pu n w a))))):=by
 have e0:evX R L Sp U=some ((.deep,.int n),U):=ax hR rfl;have o1:em U i=none:=by unfold em;rw[hU];rfl
 refine FI ?_ ?_
 ·unfold gI;rw[e0];show(em U i).bind _=none;rw[o1];rfl
 ·unfold yo;rw[show wm U i=some w by unfold wm;rw[hU];rfl,hR,hk];show(if lfL w.2=true/\w.1.length+1<big then _ else _)=_;rw[if_pos ⟨hw.lf,lt_of_le_of_lt (show w.1.length+1<=101 by have:=hw.sz;omega) (by decide)⟩];rfl
theorem FN {lv:List (List Int)} (h:∀l∈lv,l≠[]):lv.length<=lv.flatten.length:=by
 induction lv with
 |nil=>exact le_refl _
 |cons l lv ih=>
  have:=ih λx hx=>h x (mem_cons_of_mem _ hx);have:=List.length_pos_iff.mpr (h l mem_cons_self);rw[List.flatten_cons,length_append,length_cons];omega
theorem wG {l:List Int} (h:l[i]?=some a):pu n (iP n (l.take i) w) a=iP n (l.take (i+1)) w:=by
 rw[List.take_add_one,h];unfold iP;rw[List.foldl_append];rfl
theorem ka {lv:List (List Int)} (h:lv[i]?=some l):(lv.take i).flatten.length+l.length<=lv.flatten.length:=by
 have hi:i<lv.length:=(List.getElem?_eq_some_iff.mp h).1;have e:lv=lv.take i++(l::lv.drop (i+1)):=by
  conv=>lhs;rw[<-List.take_append_drop i lv,List.drop_eq_getElem_cons hi]
  rw[(List.getElem?_eq_some_iff.mp h).2]
 have q:lv.flatten.length=(lv.take i++(l::lv.drop (i+1))).flatten.length:=by rw[<-e]
 rw[List.flatten_append,List.flatten_cons,length_append,length_append]at q;omega
def FO (f:List D->Option Sl):Prop:=∀lv:List (List Int),lv.flatten.length<=24->lv.length<1000->f [lvD lv]=some (.deep,Cw lv)
theorem Jq:FO (aO 1 5 fW):=λlv h24 hlv=>by
 have hs:az 5 [lvD lv]=[some (.sh,lvD lv),none,none,none,none]:=rfl;refine aP rfl ?_;rw[hs];unfold fW;refine bw (s:=(.deep,wD' ([],[]))) (U':=[some (.sh,lvD lv),none,none,none,none]) rfl ?_;refine uh (xs:=lv.zipIdx) (mk:=λp=>.tup [.int (p.2:Nat),scD p.1]) (λi U=>∃o2 o3 o4,U=[some (.sh,lvD lv),some (.deep,wD' (lF (lv.take i) 0 ([],[]))),o2,o3,o4]) ?_ ⟨none,none,none,rfl⟩ ?_ ?_
 ·have e:jX (enF (aa (va 0) ae)) (biF noD (aa (va 0) ae)) [some (lvD lv),none,none,none,none]=some ((lv.zipIdx).map λp=>.tup [.int (p.2:Nat),scD p.1]):=by
   have q:enF (aa (va 0) ae) [some (lvD lv),none,none,none,none]=some ((lv.zipIdx).map λp=>.tup [.int (p.2:Nat),scD p.1]):=by
    show(cA (lvD lv)).bind (λxs=>some (mT xs))=_;rw[show cA (lvD lv)=some (lv.map scD)from rfl,Option.bind_some,wB]
   unfold jX orO;rw[q]
  exact e
 ·rintro i ⟨l,n⟩ U hx ⟨o2,o3,o4,rfl⟩;rw[List.getElem?_zipIdx]at hx;obtain⟨l',hl,e⟩:=Option.map_eq_some_iff.mp hx;rw[Nat.zero_add]at e;cases e;have tf:=ka hl;have w0:=Ac (lv:=lv.take i) (n:=0) ok0;rw[Nat.zero_add]at w0;have nx:lF (lv.take (i+1)) 0 ([],[])=iP (i:Int) l (lF (lv.take i) 0 ([],[])):=by
   have hi:i<lv.length:=(List.getElem?_eq_some_iff.mp hl).1;rw[List.take_add_one,hl];show lF (lv.take i++[l]) 0 _=_;rw[pC,List.length_take,Nat.min_eq_left (Nat.le_of_lt hi),Nat.zero_add]
  show∃U',ah (frF (jX noV (va 3)) (eNm 4) (ah (gN 1 (va 4) (evX (va 2) noV noV) (va 2)) nxE)) nxE [some (.sh,lvD lv),some (.deep,wD' (lF (lv.take i) 0 ([],[]))),some (.sh,.int (i:Nat)),some (.sh,scD l),o4]=some (.nx U')/\_;refine vx (xs:=l) (mk:=D.int) (λj U=>∃o4,U=[some (.sh,lvD lv),some (.deep,wD' (iP (i:Int) (l.take j) (lF (lv.take i) 0 ([],[])))),some (.sh,.int (i:Nat)),some (.sh,scD l),o4]) rfl ⟨o4,rfl⟩ ?_ ?_
  ·rintro j a U ha ⟨o4,rfl⟩;have hj:j<l.length:=(List.getElem?_eq_some_iff.mp ha).1;have w1:=qr (n:=(i:Int)) (l:=l.take j) w0;rw[List.length_take,Nat.min_eq_left (Nat.le_of_lt hj)]at w1;refine⟨_,(av (vD (a:=a) (n:=(i:Int)) w1 (by omega) rfl rfl rfl)).trans rfl,⟨some (.sh,.int a),?_⟩⟩;rw[wG ha];rfl
  ·rintro U ⟨o4,rfl⟩;rw[List.take_length,<-nx];exact eD ⟨_,_,_,rfl⟩
 ·rintro U ⟨o2,o3,o4,rfl⟩;rw[List.length_zipIdx,List.take_length];rfl
end K16
namespace K16
open PySem PySem.Spec PyProof.Rows L2
def dg:Ev->Option Out:=(ah (aN 2 (evX (lsF (dpF ae)) (dpF ae) (fLs ae))) (ah (frF (jX noV (va 1)) (eTp 2 (gd (eNm 3) (gd (eNm 4) rB))) (ah (ifS (au (af (bi false) (va 3) (cS "any"))) (ah (iB 2 (evX (liG (aa (va 4) ae) (s1F (aa (va 4) ae))) (s1F (aa (va 4) ae)) (fNo (aa (va 4) ae)))) nxE) (ah (ifS (au (af (bi false) (va 3) (cS "row"))) (ah (p9 2 (lsF (aw [6] (jX noV (va 4)) (gNm 6) tQ (lsF (dpF (aa (va 6) ae)))))) nxE) (ah (frF (jX (r1F (aa (cI 10) ae)) (biF noD (aa (cI 10) ae))) (eNm 5) (ah (frF (jX noV (liG (aa (va 4) ae) (s1F (aa (va 4) ae)))) (eNm 6) (ah (ifS (au (af (bi false) (af ixD (af ixD (va 0) (va 6)) (cI 1)) (va 5))) (ah (iB 2 (evX (lsF (dpF (aa (va 6) ae))) (dpF (aa (va 6) ae)) (fLs (aa (frX (va 6) noV noV) ae)))) nxE) nxE) nxE)) nxE)) nxE)) nxE)) nxE)) (ah (rtN 2) nxE)))
def levs (ls:Lts) (gs:List Gr):List (List Int):=gs.flatMap (levG ls)
theorem mm (r:List Nat):(izs r).length=r.length:=length_map _
theorem pD (l:List Int):(l.map ([·])).flatten=l:=by
 induction l with
 |nil=>rfl
 |cons a l ih=>rw[List.map_cons,List.flatten_cons,ih];rfl
theorem Ad (h:lC ls) (g:Gr):(levG ls g).flatten.Perm (izs g.2):=by
 unfold levG;split
 ·simp only[List.flatten_cons,List.flatten_nil,List.append_nil];exact fC _
 ·split
  ·rw[pD];exact j8 h _
  ·rw[pD]
theorem FP (h:lC ls) (hg:g.2≠[]):∀l∈levG ls g,l≠[]:=λl hl=>by
 unfold levG at hl;split at hl
 ·rw[mem_singleton.mp hl];intro z;have:=(fC (izs g.2)).length_eq;rw[z,mm]at this;exact hg (List.length_eq_zero_iff.mp this.symm)
 ·split at hl
  ·obtain⟨a,_,rfl⟩:=List.mem_map.mp hl;simp
  ·obtain⟨a,_,rfl⟩:=List.mem_map.mp hl;simp
theorem ke (h:lC ls):∀gs:List Gr,(levs ls gs).flatten.Perm (izs (bR gs))
 |[]=>.refl _
 |g::gs=>by
  show(levG ls g++levs ls gs).flatten.Perm (izs (g.2++bR gs));rw[List.flatten_append];unfold izs;rw[List.map_append];exact(Ad h g).append (ke h gs)
theorem qu (h:lC ls) (hg:∀g∈gs,g.2≠[]):∀l∈levs ls gs,l≠[]:=λl hl=>by
 obtain⟨g,h1,h2⟩:=List.mem_flatMap.mp hl;exact FP h (hg g h1) l h2
theorem gU (h:lC ls) (hg:∀g∈gs,g.2≠[]):(levs ls gs).length<=(bR gs).length/\(levs ls gs).flatten.length=(bR gs).length:=by
 have e:=(ke h gs).length_eq;rw[mm]at e;exact⟨by rw[<-e];exact FN (qu h hg),e⟩
theorem kg {gs:List Gr} (h:gs[i]?=some g):levs ls (gs.take (i+1))=levs ls (gs.take i)++levG ls g:=by
 rw[List.take_add_one,h];unfold levs;rw[List.flatMap_append];simp
theorem pE:(bR (gs.take i)).length<=(bR gs).length:=by
 conv=>rhs;rw[<-List.take_append_drop i gs]
 unfold bR;rw[List.flatMap_append,length_append];omega
theorem qv (h:c≠.sh):∀es:List D,extC c es≠.sh
 |[]=>h
 |d::es=>qv (ip c (extS d)) es
theorem Ae (h:eX U i=some (c,.lst ds)) (hc:c≠.sh):em U i=some (c,ds):=by
 unfold em;rw[h];cases c with
 |sh=>exact absurd rfl hc
 |deep=>rfl
 |top=>rfl
theorem Af (h0:eX U i=some (c,.lst ds)) (hc:c≠.sh) (hR:R (shv U)=some (.lst es)) (hl:ds.length+es.length<big):p9 i R U=some (.nx (U.set i (some (extC c es,.lst (ds++es))))):=by
 unfold p9;rw[Ae h0 hc];simp only[Option.bind_some,hR];show(if ds.length+es.length<big then _ else _)=_;rw[if_pos hl]
def FQ (f:List D->Option Sl):Prop:=∀ (m:Nat) (ls:Lts) (gs:List Gr),lC ls->ls.length=m->Good m gs->∃c,c≠Cat.sh/\f [lsD' ls,gsD gs]=some (c,lvD (levs ls gs))
theorem uq (h0:eX U i=some (c,.lst ds)) (hc:c≠.sh) (h:g U=some (s,U)) (hl:ds.length+1<big):iB i g U=some (.nx (U.set i (some (newCat c s,.lst (ds++[s.2]))))):=by
 unfold iB;rw[Ae h0 hc,h];show((em U i).bind _)=_;rw[Ae h0 hc];show(if ds.length+1<big then _ else _)=_;rw[if_pos hl]
theorem lt_big (h:n<=100):n<big:=lt_of_le_of_lt h (by decide)
theorem mn (a b:List (List Int)):lvD (a++b)=.lst (a.map scD++b.map scD):=by unfold lvD;rw[List.map_append]
theorem FR {α β:Type} {out:α->Option Out} {P:α->Prop} {xs:List β} {mk} (I:Nat->Ev->Prop) (hJ:J (shv U)=some (xs.map mk)) (h0:I 0 U) (hs:∀ (i:Nat) (x:β) (U:Ev),xs[i]?=some x->I i U->∃U',(tg (mk x) U).bind F=some (.nx U')/\I (i+1) U') (k:∀U',I xs.length U'->∃a,G U'=out a/\P a):∃a,ah (frY j J tg F) G U=out a/\P a:=by
 have hs':∀ (i:Nat) (d:D) (U:Ev),(xs.map mk)[i]?=some d->I i U->∃U',(tg d U).bind F=some (.nx U')/\I (i+1) U':=λi d U hd hi=>by
  rw[getElem?_map]at hd;cases hx:xs[i]? with
  |none=>rw[hx]at hd;cases hd
  |some x=>rw[hx]at hd;cases hd;exact hs i x U hx hi
 obtain⟨U',e,i⟩:=fw (step:=lu tg F) (xs.map mk) I _ h0 hs';rw[length_map]at i;have e':gG J tg F U=some (.nx U'):=by unfold gG;rw[hJ];exact e
 refine sg (U':=U') ?_ (k _ i);unfold frY orO;rw[e']
theorem Jr (hg:sGL gl):FQ (aO 2 5 (eE gl)):=λm ls gs hl hm G=>by
 have hs:az 5 [lsD' ls,gsD gs]=[some (.sh,lsD' ls),some (.sh,gsD gs),none,none,none]:=rfl;have key:∃c,eE gl [some (.sh,lsD' ls),some (.sh,gsD gs),none,none,none]=some (.rt (c,lvD (levs ls gs)))/\c≠Cat.sh:=by
  unfold eE;refine jw (s:=(.deep,.lst [])) (U':=[some (.sh,lsD' ls),some (.sh,gsD gs),none,none,none]) (evX_lfs (d:=.lst []) (ds:=[]) (by simp) rfl (by simp) rfl) ?_;refine FR (xs:=gs) (mk:=grD) (λi U=>∃c o3 o4,c≠Cat.sh/\U=[some (.sh,lsD' ls),some (.sh,gsD gs),some (c,lvD (levs ls (gs.take i))),o3,o4]) rfl ⟨.deep,none,none,by simp,rfl⟩ ?_ ?_
  ·rintro i g U hx ⟨c,o3,o4,hc,rfl⟩;have gm:g∈gs:=mem_of_getElem? hx;have hfl:=G.len;have hle:=G.le;have e:=hg ls g hl (G.kd g gm) (G.ne g gm) (λa ha=>by rw[hm];exact G.lt gm ha) (by have:=uk gm;omega);have n1:∀x∈gs.take (i+1),x.2≠[]:=λx hx=>G.ne x (List.mem_of_mem_take hx);have b1:=(gU hl n1).1;have b2:=pE (gs:=gs) (i:=i+1);rw[kg hx,length_append]at b1;refine⟨_,(av (Af (c:=c) (ds:=(levs ls (gs.take i)).map scD) (es:=(levG ls g).map scD) rfl hc ?_ ?_)).trans rfl,⟨extC c ((levG ls g).map scD),some (.sh,.str (kdS g.1)),some (.sh,aA g.2),qv hc _,?_⟩⟩
   ·show clF gl _ [some (lsD' ls),some (gsD gs),_,some (.str (kdS g.1)),some (aA g.2)]=_;simp only[cK,ai,aq,aH,ao,ar,Option.bind_some,e,aR];rfl
   ·rw[length_map,length_map];exact lt_big (by omega)
   ·rw[kg hx,mn];rfl
  ·rintro U ⟨c,o3,o4,hc,rfl⟩;refine⟨c,?_,hc⟩;rw[List.take_length];rfl
 obtain⟨c,e,hc⟩:=key;exact⟨c,hc,aP rfl (by rw[hs];exact e)⟩
theorem Ag (A:List (List Int)) (F:List Int) (a:Int):A++(F++[a]).map ([·])=(A++F.map ([·]))++[[a]]:=by rw[List.map_append,<-List.append_assoc];rfl
theorem ur (h0:∀a∈l,0<=f a) (n:Nat):(cZ f l n).length<=l.length:=by
 rw[(gS h0 n).length_eq];exact List.length_filter_le _ _
def FS (f:List D->Option Sl):Prop:=∀ (m:Nat) (ls:Lts) (gs:List Gr),qp ls->ls.length=m->Good m gs->∃c,c≠Cat.sh/\f [lsD' ls,gsD gs]=some (c,lvD (levs ls gs))
theorem FT:FS (aO 2 7 dg):=λm ls gs hl0 hm G=>by
 have hl:lC ls:=trivial;have hs:az 7 [lsD' ls,gsD gs]=[some (.sh,lsD' ls),some (.sh,gsD gs),none,none,none,none,none]:=rfl;have key:∃c,dg [some (.sh,lsD' ls),some (.sh,gsD gs),none,none,none,none,none]=some (.rt (c,lvD (levs ls gs)))/\c≠Cat.sh:=by
  unfold dg;refine jw (s:=(.deep,.lst [])) (U':=[some (.sh,lsD' ls),some (.sh,gsD gs),none,none,none,none,none]) (evX_lfs (d:=.lst []) (ds:=[]) (by simp) rfl (by simp) rfl) ?_;refine vx (xs:=gs) (mk:=grD) (λi U=>∃c o3 o4 o5 o6,c≠Cat.sh/\U=[some (.sh,lsD' ls),some (.sh,gsD gs),some (c,lvD (levs ls (gs.take i))),o3,o4,o5,o6]) rfl ⟨.deep,none,none,none,none,by simp,rfl⟩ ?_ ?_
  ·rintro i ⟨k,r⟩ U hx ⟨c,o3,o4,o5,o6,hc,rfl⟩;have gm:(k,r)∈gs:=mem_of_getElem? hx;have hfl:=G.len;have hle:=G.le;have hr:r.length<=24:=by have:=uk gm;have:r.length<=(bR gs).length:=this;omega
   have n1:∀x∈gs.take i,x.2≠[]:=λx hx=>G.ne x (List.mem_of_mem_take hx);have b1:=(gU hl n1).1;have b2:=pE (gs:=gs) (i:=i);have s1:∀U:Vv,eJ U 4=some (aA r)->s1F (aa (va 4) ae) U=some ((srtZ (izs r)).map D.int):=λU h=>by
    show(aa (va 4) ae U).bind kX=_;simp only[ai,aq,aH,h,Option.bind_some,sr hr]
   have lvs:levs ls (gs.take (i+1))=levs ls (gs.take i)++levG ls (k,r):=kg hx;rcases(show k=0\/k=1\/k=2 by have:k<3:=G.kd _ gm;omega)with rfl|rfl|rfl
   ·refine nC (b:=true) rfl ⟨_,(av (uq (c:=c) (s:=(.deep,scD (srtZ (izs r)))) (ds:=(levs ls (gs.take i)).map scD) rfl hc ?_ ?_)).trans rfl,eD ⟨newCat c (.deep,scD (srtZ (izs r))),some (.sh,.str (kdS 0)),some (.sh,aA r),o5,o6,ip _ _,?_⟩⟩
    ·have z:=s1 (vw [some (.sh,lsD' ls),some (.sh,gsD gs),some (c,lvD (levs ls (gs.take i))),some (.sh,.str (kdS 0)),some (.sh,aA r),o5,o6]) rfl;exact evX_lfs (d:=scD (srtZ (izs r))) (ds:=(srtZ (izs r)).map D.int) (lj z) rfl z (jx _)
    ·rw[length_map];exact lt_big (by omega)
    ·rw[lvs,mn];rfl
   ·have lt0:∀a∈srtZ (izs r),0<=a8 ls a:=λa _=>(j7 hl0 a).1;have sl:(srtZ (izs r)).length=r.length:=by rw[(fC _).length_eq,mm]
    have at1:∀a∈srtZ (izs r),ixD (lsD' ls) (.int a)=some (.tup [.int (ls.getD a.toNat (0,0)).1,.int (a8 ls a)]):=λa ha=>by
     obtain⟨n,hn,rfl⟩:=List.mem_map.mp ((fC _).mem_iff.mp ha);have hlt:n<ls.length:=by rw[hm];exact G.lt gm hn
     have q:=rW (mk:=ltD') (xs:=ls) (i:=n) (x:=ls[n]) (getElem?_eq_getElem hlt);have e:ls.getD (n:Int).toNat (0,0)=ls[n]:=by
      rw[Int.toNat_natCast,List.getD_eq_getElem?_getD,getElem?_eq_getElem hlt];rfl
     unfold a8;rw[e];exact q
    obtain⟨U',e,c',q3,q4,q5,q6,hc',rfl⟩:∃U',ah (frF (jX (r1F (aa (cI 10) ae)) (biF noD (aa (cI 10) ae))) (eNm 5) (ah (frF (jX noV (liG (aa (va 4) ae) (s1F (aa (va 4) ae)))) (eNm 6) (ah (ifS (au (af (bi false) (af ixD (af ixD (va 0) (va 6)) (cI 1)) (va 5))) (ah (iB 2 (evX (lsF (dpF (aa (va 6) ae))) (dpF (aa (va 6) ae)) (fLs (aa (frX (va 6) noV noV) ae)))) nxE) nxE) nxE)) nxE)) nxE
      [some (.sh,lsD' ls),some (.sh,gsD gs),some (c,lvD (levs ls (gs.take i))),some (.sh,.str (kdS 1)),some (.sh,aA r),o5,o6]=some (.nx U')/\∃c' q3 q4 q5 q6,c'≠Cat.sh/\U'=[some (.sh,lsD' ls),some (.sh,gsD gs),some (c',lvD (levs ls (gs.take (i+1)))),q3,q4,q5,q6]:=by
     refine Dw (n:=10) (s:=5) (v:=λi=>(i:Int)) (λt U=>∃c o5 o6,c≠Cat.sh/\U=[some (.sh,lsD' ls),some (.sh,gsD gs),some (c,lvD (levs ls (gs.take i)++(cZ (a8 ls) (srtZ (izs r)) t).map ([·]))),some (.sh,.str (kdS 1)),some (.sh,aA r),o5,o6]) ?_ ⟨c,o5,o6,hc,?_⟩ ?_ ?_
     ·exact pj (fA (n:=10) (by decide))
     ·rw[show cZ (a8 ls) (srtZ (izs r)) 0=[]from rfl,List.map_nil,List.append_nil]
     ·rintro t U ht ⟨c,o5,o6,hc,rfl⟩;have bl:=ur lt0 t;refine vx (xs:=srtZ (izs r)) (mk:=D.int) (λj U=>∃c o6,c≠Cat.sh/\U=[some (.sh,lsD' ls),some (.sh,gsD gs),some (c,lvD (levs ls (gs.take i)++(cZ (a8 ls) (srtZ (izs r)) t).map ([·])++(((srtZ (izs r)).take j).filter λa=>decide (a8 ls a=(t:Int))).map ([·]))),some (.sh,.str (kdS 1)),some (.sh,aA r),some (.sh,.int (t:Int)),o6]) ?_ ⟨c,o6,hc,?_⟩ ?_ ?_
      ·have z:=s1 (shv [some (.sh,lsD' ls),some (.sh,gsD gs),some (c,lvD (levs ls (gs.take i)++(cZ (a8 ls) (srtZ (izs r)) t).map ([·]))),some (.sh,.str (kdS 1)),some (.sh,aA r),some (.sh,.int (t:Int)),o6]) rfl;refine jX_none.trans ?_;exact(congrArg (λx=>Option.bind x cA) (lj (xs:=aa (va 4) ae) z)).trans rfl
      ·rw[List.take_zero,List.filter_nil,List.map_nil,List.append_nil];rfl
      ·rintro j a U ha ⟨c,o6,hc,rfl⟩;have am:a∈srtZ (izs r):=mem_of_getElem? ha;have hj:j<(srtZ (izs r)).length:=(List.getElem?_eq_some_iff.mp ha).1;have fl:(((srtZ (izs r)).take j).filter λa=>decide (a8 ls a=(t:Int))).length<=r.length:=by
        refine Nat.le_trans (List.length_filter_le _ _) ?_;rw[List.length_take];omega
       have tk:(srtZ (izs r)).take (j+1)=(srtZ (izs r)).take j++[a]:=by rw[List.take_add_one,ha];rfl
       have ct:au (af (bi false) (af ixD (af ixD (va 0) (va 6)) (cI 1)) (va 5)) (vw [some (.sh,lsD' ls),some (.sh,gsD gs),some (c,lvD (levs ls (gs.take i)++(cZ (a8 ls) (srtZ (izs r)) t).map ([·])++(((srtZ (izs r)).take j).filter λa=>decide (a8 ls a=(t:Int))).map ([·]))),some (.sh,.str (kdS 1)),some (.sh,aA r),some (.sh,.int (t:Int)),some (.sh,.int a)])=some (decide (a8 ls a=(t:Int))):=by
        show(((ixD (lsD' ls) (.int a)).bind λx=>ixD x (.int 1)).bind λx=>bi false x (.int (t:Int))).bind D.asB=_;rw[at1 a am];show(bi false (.int (a8 ls a)) (.int (t:Int))).bind D.asB=_;rw[pv];rfl
       by_cases ht:a8 ls a=(t:Int)
       ·rw[decide_eq_true ht]at ct;refine nC (b:=true) ct ⟨_,(av (uq (c:=c) (s:=(.deep,.lst [.int a])) (ds:=(levs ls (gs.take i)++(cZ (a8 ls) (srtZ (izs r)) t).map ([·])++(((srtZ (izs r)).take j).filter λa=>decide (a8 ls a=(t:Int))).map ([·])).map scD) rfl hc (evX_lfs (d:=.lst [.int a]) (ds:=[.int a]) rfl rfl rfl rfl) ?_)).trans rfl,eD ⟨newCat c (.deep,.lst [.int a]),some (.sh,.int a),ip _ _,?_⟩⟩
        ·rw[length_map,length_append,length_append,length_map,length_map];exact lt_big (by omega)
        ·rw[tk,List.filter_append,show([a].filter λa=>decide (a8 ls a=(t:Int)))=[a]by rw[List.filter_cons,if_pos (decide_eq_true ht)];rfl,Ag,mn _ [[a]]];rfl
       ·rw[decide_eq_false ht]at ct;refine nC (b:=false) ct ⟨_,rfl,eD ⟨c,some (.sh,.int a),hc,?_⟩⟩;rw[tk,List.filter_append,show([a].filter λa=>decide (a8 ls a=(t:Int)))=[]by rw[List.filter_cons,if_neg (by rw[decide_eq_false ht];decide)];rfl,List.append_nil];rfl
      ·rintro U ⟨c,o6,hc,rfl⟩;refine eD ⟨c,some (.sh,.int (t:Int)),o6,hc,?_⟩;rw[List.take_length,gR,List.map_append,<-List.append_assoc]
     ·rintro U ⟨c,o5,o6,hc,rfl⟩;refine eD ⟨c,some (.sh,.str (kdS 1)),some (.sh,aA r),o5,o6,hc,?_⟩;rw[lvs,Cr hl0];rfl
    exact nC (b:=false) rfl ⟨_,(av ((iI rfl).trans e)).trans rfl,eD ⟨c',q3,q4,q5,q6,hc',rfl⟩⟩
   ·refine nC (b:=false) rfl ⟨_,(av ((nt rfl).trans ((av (Af (c:=c) (ds:=(levs ls (gs.take i)).map scD) (es:=((izs r).map ([·])).map scD) rfl hc ?_ ?_)).trans rfl))).trans rfl,eD ⟨extC c (((izs r).map ([·])).map scD),some (.sh,.str (kdS 2)),some (.sh,aA r),o5,o6,qv hc _,?_⟩⟩
    ·have q:aw [6] (jX noV (va 4)) (gNm 6) tQ (lsF (dpF (aa (va 6) ae))) (shv [some (.sh,lsD' ls),some (.sh,gsD gs),some (c,lvD (levs ls (gs.take i))),some (.sh,.str (kdS 2)),some (.sh,aA r),o5,o6])=some (r.map λ(a:Nat)=>.lst [.int (a:Int)]):=by
      refine aU (xs:=r) (mk:=λ(k:Nat)=>D.int (k:Int)) (out:=λ(a:Nat)=>.lst [.int (a:Int)]) rfl (λa h=>?_) (lt_big (by omega));simp only[zY,bZ,bg,bv,eB,lB,set_cons_succ,set_cons_zero,Option.bind_some,if_true,dF,iK,ai,aq,aH,ao,ar,iY,map_some]
     refine(congrArg (Option.map D.lst) q).trans ?_;unfold izs;rw[List.map_map,List.map_map];rfl
    ·rw[length_map,length_map,length_map,mm];exact lt_big (by omega)
    ·rw[lvs,mn];rfl
  ·rintro U ⟨c,o3,o4,o5,o6,hc,rfl⟩;refine⟨c,?_,hc⟩;rw[List.take_length];rfl
 obtain⟨c,e,hc⟩:=key;exact⟨c,hc,aP rfl (by rw[hs];exact e)⟩
end K16
namespace K16
open PySem PySem.Spec PyProof.Rows L2
def kh (bD:List D->Option Sl) (bC:List D->Option Sl) (bB:List D->Option Sl) (y:Addr):InF:=(stI (ifS (dY (trF (clF bB (aa (va 2) (aa (biF aS (aa (va 1) ae)) ae))))) (ah noO' nxE) nxE) (rC y 0 "groups" (evX (lsF (aw [3,4] (jX noV (va 2)) (gTp 2 (bq (gNm 3) (bq (gNm 4) eV))) tQ (tpF (aa (va 3) (aa (liF (aa (va 4) ae)) ae))))) (aw [3,4] (jX noV (va 2)) (gTp 2 (bq (gNm 3) (bq (gNm 4) eV))) tQ (tpF (aa (va 3) (aa (liF (aa (va 4) ae)) ae)))) (fCo [3,4] (jX noV (va 2)) (gTp 2 (bq (gNm 3) (bq (gNm 4) eV))) tQ (frX (tpF (aa (va 3) (aa (liF (aa (va 4) ae)) ae))) noV (fTp (aa (frX (va 3) noV noV) (aa (frX (liF (aa (va 4) ae)) (l1F (aa (va 4) ae)) (fNo (aa (va 4) ae))) ae)))))) (rC y 0 "level_letters" (evX (clF bC (aa (va 1) (aa (va 2) ae))) noV (fCl bC (aa (va 1) (aa (va 2) ae)))) (yM y 0 "level_numbers" "level_letters" bD By))))
def dh (fl:Str->Str->Bool):Ev->Option Out:=(ah (cw (evX (lsF (aw [1] (jX noV (flF fl "level_letters" (va 0))) (gNm 1) tQ (liF (aa (va 1) ae)))) (aw [1] (jX noV (flF fl "level_letters" (va 0))) (gNm 1) tQ (liF (aa (va 1) ae))) (fCo [1] (jX noV (flF fl "level_letters" (va 0))) (gNm 1) tQ (frX (liF (aa (va 1) ae)) (l1F (aa (va 1) ae)) (fNo (aa (va 1) ae)))))) nxE)
def eM:Ev->Option Out:=(ah (cw (evX (lsF (aw [1,2] (jX noV (va 0)) (gTp 2 (bq (gNm 1) (bq (gNm 2) eV))) tQ (tpF (aa (va 1) (aa (liF (aa (va 2) ae)) ae))))) (aw [1,2] (jX noV (va 0)) (gTp 2 (bq (gNm 1) (bq (gNm 2) eV))) tQ (tpF (aa (va 1) (aa (liF (aa (va 2) ae)) ae)))) (fCo [1,2] (jX noV (va 0)) (gTp 2 (bq (gNm 1) (bq (gNm 2) eV))) tQ (frX (tpF (aa (va 1) (aa (liF (aa (va 2) ae)) ae))) noV (fTp (aa (frX (va 1) noV noV) (aa (frX (liF (aa (va 2) ae)) (l1F (aa (va 2) ae)) (fNo (aa (va 2) ae))) ae))))))) nxE)
theorem vE {R L Sp} (h:R U=some d) (f:lfD d=false) (hl:L U=none) (hs:Sp U=some e):frX R L Sp U=some e:=by
 unfold frX orO;simp only[h,hl,lfO,gE,Option.bind_none,Option.bind_some,f,hs];rfl
theorem dk (r:List Nat):jh [aA r]=some (r.map λ(k:Nat)=>D.int (k:Int)):=rfl
theorem Ah (h:gs≠[]):lfL (gs.map grD)=false:=by
 cases gs with
 |nil=>exact absurd rfl h
 |cons g gs=>rfl
def FU (f:List D->Option Sl):Prop:=∀gs:List Gr,gs.length<=24->f [gsD gs]=some (.deep,gsD gs)
theorem Js:FU (aO 1 3 eM):=λgs h24=>by
 have hs:az 3 [gsD gs]=[some (.sh,gsD gs),none,none]:=rfl;refine aP rfl ?_;rw[hs];unfold eM;have c1:aw [1,2] (jX noV (va 0)) (gTp 2 (bq (gNm 1) (bq (gNm 2) eV))) tQ (tpF (aa (va 1) (aa (liF (aa (va 2) ae)) ae))) [some (gsD gs),none,none]=some (gs.map grD):=by
  refine aU (xs:=gs) (mk:=grD) (out:=grD) rfl (λg hg=>?_) (lt_big (by omega));show gb _ _ _ _ (.tup [.str (kdS g.1),aA g.2])=_;simp only[bZ,bg,bv,vl,jr,mi,eB,lB,set_cons_succ,set_cons_zero,length_cons,List.length_nil,Option.bind_some,if_true,iJ,jp,ai,aq,aH,ao,ar,dk,map_some,cY];rfl
 have c2:aw [1,2] (jX noV (va 0)) (gTp 2 (bq (gNm 1) (bq (gNm 2) eV))) tQ (frX (tpF (aa (va 1) (aa (liF (aa (va 2) ae)) ae))) noV (fTp (aa (frX (va 1) noV noV) (aa (frX (liF (aa (va 2) ae)) (l1F (aa (va 2) ae)) (fNo (aa (va 2) ae))) ae)))) [some (gsD gs),none,none]=some (gs.map grD):=by
  refine aU (xs:=gs) (mk:=grD) (out:=grD) rfl (λg hg=>?_) (lt_big (by omega));have e1:frX (va 1) noV noV [some (gsD gs),some (.str (kdS g.1)),some (aA g.2)]=some (.str (kdS g.1)):=uo rfl rfl;have e2:frX (liF (aa (va 2) ae)) (l1F (aa (va 2) ae)) (fNo (aa (va 2) ae)) [some (gsD gs),some (.str (kdS g.1)),some (aA g.2)]=some (aA g.2):=j9 (by simp only[jp,ai,aq,aH,ao,ar,Option.bind_some,dk,map_some]) (by simp only[ze,ai,aq,aH,ao,ar,Option.bind_some,dk]) (um _);have e3:frX (tpF (aa (va 1) (aa (liF (aa (va 2) ae)) ae))) noV (fTp (aa (frX (va 1) noV noV) (aa (frX (liF (aa (va 2) ae)) (l1F (aa (va 2) ae)) (fNo (aa (va 2) ae))) ae))) [some (gsD gs),some (.str (kdS g.1)),some (aA g.2)]=some (grD g):=by
   refine vE (d:=grD g) ?_ rfl rfl ?_
   ·simp only[iJ,jp,ai,aq,aH,ao,ar,Option.bind_some,dk,map_some,cY];rfl
   ·simp only[zf,ai (a:=frX _ _ _),e1,e2,aq,Option.bind_some,cY];rfl
  show gb _ _ _ _ (.tup [.str (kdS g.1),aA g.2])=_;simp only[bZ,bg,bv,vl,jr,mi,eB,lB,set_cons_succ,set_cons_zero,length_cons,List.length_nil,Option.bind_some,if_true,e3]
 refine dG (U':=[some (.sh,gsD gs),none,none]) ?_;cases hg:gs with
 |nil=>rfl
 |cons g0 g1=>
  rw[<-hg];refine jv (d:=gsD gs) (ds:=gs.map grD) (by simp only[aG,aL,aB,dF,c1];rfl) rfl (by simp only[aG,aL,aB,c1]) (Ah (by rw[hg];simp)) ?_;show(aw _ _ _ _ _ _).bind _=_;simp only[aG,aL,aB,c2,Option.bind_some];rfl
instance gwDec (p:Prop):Decidable p:=Classical.propDecidable p
def gW (n m:Nat) (I:Addr->InF):List D->Option (List (Str×D)):=λds=>if h:∃r,∀y,rD n m I y ds=some r then some (Classical.choose h)else none
theorem Ai (h:gW n m I ds=some r):∀y,rD n m I y ds=some r:=by
 unfold gW at h;split at h
 ·rename_i q;cases h;exact Classical.choose_spec q
 ·cases h
theorem Dy (h:∀y,rD n m I y ds=some r):gW n m I ds=some r:=by
 have q:∃r,∀y,rD n m I y ds=some r:=⟨r,h⟩;unfold gW;rw[dif_pos q];have:=(Classical.choose_spec q 0).symm.trans (h 0);exact this
def wFs (ls:Lts) (gs:List Gr):List (Str×D):=[("groups",gsD gs),("level_letters",lvD (levs ls gs)),("level_numbers",Cw (levs ls gs))]
def aV (ls:Lts) (gs:List Gr):D:=.obj "Wish" ["groups","level_letters","level_numbers"] [gsD gs,lvD (levs ls gs),Cw (levs ls gs)]
def Aj (g:List D->Option (List (Str×D))):Prop:=∀ (m:Nat) (ls:Lts) (gs:List Gr),lC ls->ls.length=m->Good m gs->g [lsD' ls,gsD gs]=some (wFs ls gs)
theorem qw (h:g U=some (s,U)) (hi:eX U i=some (.sh,.adr x)) (hl:fs.length<900):rC x i f g G U fs=G U (jV f s.2 fs):=by
 unfold rC;rw[h];show(match eX U i with|some (.sh,.adr a)=>if a=x/\fs.length<900 then G U (jV f s.2 fs)else none|_=>none)=_;rw[hi];exact if_pos ⟨rfl,hl⟩
theorem Cy (hd:fs.lookup h=some d) (he:ff [d]=some s) (hi:eX U i=some (.sh,.adr x)) (hl:fs.length<900):yM x i f h ff G U fs=G U (jV f s.2 fs):=by
 unfold yM;rw[hi];show(if x=x/\fs.length<900 then _ else _)=_;rw[if_pos ⟨rfl,hl⟩,hd,Option.bind_some,he,Option.bind_some]
theorem FV (h1:FO num) (h2:FQ lev) (h3:FK are):Aj (gW 3 5 (kh num lev are)):=λm ls gs hl hm G=>Dy λy=>by
 have hfl:=G.len;have hle:=G.le;have hgl:=gT G.ne;obtain⟨b1,b2⟩:=gU hl G.ne;obtain⟨c,hc,e2⟩:=h2 m ls gs hl hm G;have e1:=h1 (levs ls gs) (by omega) (by omega);have e3:=h3 m gs G;have len1:aS [lsD' ls]=some (.int (m:Int)):=by
  rw[<-hm];simp only[nw,show cA (lsD' ls)=some (ls.map ltD')from rfl,Option.bind_some,length_map]
 show kh num lev are y [some (.sh,.adr y),some (.sh,lsD' ls),some (.sh,gsD gs),none,none] []=_;unfold kh;have c0:ifS (dY (trF (clF are (aa (va 2) (aa (biF aS (aa (va 1) ae)) ae))))) (ah noO' nxE) nxE [some (.sh,.adr y),some (.sh,lsD' ls),some (.sh,gsD gs),none,none]=some (.nx [some (.sh,.adr y),some (.sh,lsD' ls),some (.sh,gsD gs),none,none]):=by
  refine(iI ?_).trans rfl;simp only[aG,aL,aB,jZ,pi,cK,fz,ai,aq,aH,ao,ar,Option.bind_some,len1,e3,aR,iw,map_some,Bool.not_true]
 unfold L2.stI;rw[c0];show rC y 0 "groups" _ _ _ _=_;have c1:aw [3,4] (jX noV (va 2)) (gTp 2 (bq (gNm 3) (bq (gNm 4) eV))) tQ (tpF (aa (va 3) (aa (liF (aa (va 4) ae)) ae))) [some (.adr y),some (lsD' ls),some (gsD gs),none,none]=some (gs.map grD):=by
  refine aU (xs:=gs) (mk:=grD) (out:=grD) rfl (λg hg=>?_) (lt_big (by omega));show gb _ _ _ _ (.tup [.str (kdS g.1),aA g.2])=_;simp only[bZ,bg,bv,vl,jr,mi,eB,lB,set_cons_succ,set_cons_zero,length_cons,List.length_nil,Option.bind_some,if_true,iJ,jp,ai,aq,aH,ao,ar,dk,map_some,cY];rfl
 have c2:aw [3,4] (jX noV (va 2)) (gTp 2 (bq (gNm 3) (bq (gNm 4) eV))) tQ (frX (tpF (aa (va 3) (aa (liF (aa (va 4) ae)) ae))) noV (fTp (aa (frX (va 3) noV noV) (aa (frX (liF (aa (va 4) ae)) (l1F (aa (va 4) ae)) (fNo (aa (va 4) ae))) ae)))) [some (.adr y),some (lsD' ls),some (gsD gs),none,none]=some (gs.map grD):=by
  refine aU (xs:=gs) (mk:=grD) (out:=grD) rfl (λg hg=>?_) (lt_big (by omega));have e1:frX (va 3) noV noV [some (.adr y),some (lsD' ls),some (gsD gs),some (.str (kdS g.1)),some (aA g.2)]=some (.str (kdS g.1)):=uo rfl rfl;have e2:frX (liF (aa (va 4) ae)) (l1F (aa (va 4) ae)) (fNo (aa (va 4) ae)) [some (.adr y),some (lsD' ls),some (gsD gs),some (.str (kdS g.1)),some (aA g.2)]=some (aA g.2):=j9 (by simp only[jp,ai,aq,aH,ao,ar,Option.bind_some,dk,map_some]) (by simp only[ze,ai,aq,aH,ao,ar,Option.bind_some,dk]) (um _);have e3:frX (tpF (aa (va 3) (aa (liF (aa (va 4) ae)) ae))) noV (fTp (aa (frX (va 3) noV noV) (aa (frX (liF (aa (va 4) ae)) (l1F (aa (va 4) ae)) (fNo (aa (va 4) ae))) ae))) [some (.adr y),some (lsD' ls),some (gsD gs),some (.str (kdS g.1)),some (aA g.2)]=some (grD g):=by
   refine vE (d:=grD g) ?_ rfl rfl ?_
   ·simp only[iJ,jp,ai,aq,aH,ao,ar,Option.bind_some,dk,map_some,cY];rfl
   ·simp only[zf,ai (a:=frX _ _ _),e1,e2,aq,Option.bind_some,cY];rfl
  show gb _ _ _ _ (.tup [.str (kdS g.1),aA g.2])=_;simp only[bZ,bg,bv,vl,jr,mi,eB,lB,set_cons_succ,set_cons_zero,length_cons,List.length_nil,Option.bind_some,if_true,e3]
 refine(qw (s:=(.deep,gsD gs)) ?_ rfl (by decide)).trans ?_
 ·cases hg:gs with
  |nil=>rfl
  |cons g0 g1=>
   rw[<-hg];refine jv (d:=gsD gs) (ds:=gs.map grD) (by simp only[aG,aL,aB,dF,c1];rfl) rfl (by simp only[aG,aL,aB,c1]) (Ah (by rw[hg];simp)) ?_;show(aw _ _ _ _ _ _).bind _=_;simp only[aG,aL,aB,c2,Option.bind_some];rfl
 ·have cv:clF lev (aa (va 1) (aa (va 2) ae)) [some (.adr y),some (lsD' ls),some (gsD gs),none,none]=some (lvD (levs ls gs)):=by
   simp only[cK,ai,aq,aH,ao,ar,Option.bind_some,e2,aR]
  have fc:fCl lev (aa (va 1) (aa (va 2) ae)) [some (.adr y),some (lsD' ls),some (gsD gs),none,none]=oU (some (c,lvD (levs ls gs))):=by
   simp only[Di,ai,aq,aH,ao,ar,Option.bind_some,e2]
  have ev:∃c',evX (clF lev (aa (va 1) (aa (va 2) ae))) noV (fCl lev (aa (va 1) (aa (va 2) ae))) [some (.sh,.adr y),some (.sh,lsD' ls),some (.sh,gsD gs),none,none]=some ((c',lvD (levs ls gs)),[some (.sh,.adr y),some (.sh,lsD' ls),some (.sh,gsD gs),none,none]):=by
   cases c with
   |sh=>exact absurd rfl hc
   |deep=>exact⟨.deep,jn cv rfl rfl fc⟩
   |top=>exact⟨.sh,ub cv rfl rfl fc rfl cv⟩
  obtain⟨c',ev⟩:=ev;refine(qw ev rfl (by show 1<900;decide)).trans ?_;refine(Cy (d:=lvD (levs ls gs)) (s:=(.deep,Cw (levs ls gs))) rfl e1 rfl (by show 2<900;decide)).trans ?_;rfl
theorem FW (hfl:fl "Wish" "level_letters"=true) (ls:Lts) (gs:List Gr):tH fl "level_letters" (aV ls gs)=some (lvD (levs ls gs)):=by
 simp[tH,aV,hfl];rfl
theorem qy (l:List Int):jh [scD l]=some (l.map D.int):=rfl
theorem FX (l:List Int):aS [scD l]=some (.int (l.length:Int)):=by
 simp only[nw,show cA (scD l)=some (l.map D.int)from rfl,Option.bind_some,length_map]
theorem FY (h:lv≠[]):lfL (lv.map scD)=false:=by
 cases lv with
 |nil=>exact absurd rfl h
 |cons g gs=>rfl
def FZ (f:List D->Option Sl):Prop:=∀ (ls:Lts) (gs:List Gr),(levs ls gs).length<=24->f [aV ls gs]=some (.deep,lvD (levs ls gs))
theorem Jt (hfl:fl "Wish" "level_letters"=true):FZ (aO 1 2 (dh fl)):=λls gs h24=>by
 refine aP rfl ?_;show dh fl [some (.sh,aV ls gs),none]=_;unfold dh;have hJ:jX noV (flF fl "level_letters" (va 0)) [some (aV ls gs),none]=some ((levs ls gs).map scD):=by
  show(flF fl "level_letters" (va 0) [some (aV ls gs),none]).bind cA=_;simp only[IB,aH,ao,Option.bind_some,FW hfl];rfl
 have c1:aw [1] (jX noV (flF fl "level_letters" (va 0))) (gNm 1) tQ (liF (aa (va 1) ae)) [some (aV ls gs),none]=some ((levs ls gs).map scD):=by
  refine aU (xs:=levs ls gs) (mk:=scD) (out:=scD) hJ (λl hl=>?_) (lt_big (by omega));simp only[bZ,bg,bv,eB,lB,set_cons_succ,set_cons_zero,Option.bind_some,if_true,jp,ai,aq,aH,ao,ar,qy,map_some];rfl
 have c2:aw [1] (jX noV (flF fl "level_letters" (va 0))) (gNm 1) tQ (frX (liF (aa (va 1) ae)) (l1F (aa (va 1) ae)) (fNo (aa (va 1) ae))) [some (aV ls gs),none]=some ((levs ls gs).map scD):=by
  refine aU (xs:=levs ls gs) (mk:=scD) (out:=scD) hJ (λl hl=>?_) (lt_big (by omega));have e2:frX (liF (aa (va 1) ae)) (l1F (aa (va 1) ae)) (fNo (aa (va 1) ae)) [some (aV ls gs),some (scD l)]=some (scD l):=j9 (by simp only[jp,ai,aq,aH,ao,ar,Option.bind_some,qy,map_some]) (by simp only[ze,ai,aq,aH,ao,ar,Option.bind_some,qy]) (jx _);simp only[bZ,bg,bv,eB,lB,set_cons_succ,set_cons_zero,Option.bind_some,if_true,e2]
 refine dG (U':=[some (.sh,aV ls gs),none]) ?_;cases hg:levs ls gs with
 |nil=>
  rw[hg]at c1;exact evX_lfs (d:=lvD []) (ds:=[]) (by simp only[aG,aL,aB,dF,c1];rfl) rfl (by simp only[aG,aL,aB,c1];rfl) rfl
 |cons g0 g1=>
  rw[<-hg];refine jv (d:=lvD (levs ls gs)) (ds:=(levs ls gs).map scD) (by simp only[aG,aL,aB,dF,c1];rfl) rfl (by simp only[aG,aL,aB,c1]) (FY (by rw[hg];simp)) ?_;show(aw _ _ _ _ _ _).bind _=_;simp only[aG,aL,aB,c2,Option.bind_some];rfl
end K16
namespace K16
open PySem PySem.Spec PyProof.Rows L2
def dt:Ev->Option Out:=(ah (cw (evX (nZ (biF gB (aa (va 0) (aa (cT "int") ae))) (xv (biF gB (aa (va 0) (aa (cT "bool") ae))))) noV noV)) nxE)
def d8:Ev->Option Out:=(ah (aN 1 (evX (af ixD (lsF (dpF (aa (cI 3) (aa (cI 4) (aa (cI 2) (aa (cI 5) (aa (cI 0) (aa (cI 6) (aa (cI 1) (aa (cI 8) (aa (cI 4) (aa (cI 12) (aa (cI 24) (aa (cI 7) ae)))))))))))))) (af aM (af ixD (va 0) (cI 0)) (cI 12))) noV noV)) (ah (aN 2 (evX (af aM (af dJ (af ixD (va 0) (cI 0)) (cI 12)) (cI 2)) noV noV)) (ah (cw (evX (lsF (aw [3] (jX (r1F (aa (va 1) ae)) (biF noD (aa (va 1) ae))) (gNm 3) tQ (tpF (aa (af bb (cI 1) (af aM (af ixD (va 0) (af bb (cI 1) (va 3))) (cI 9))) (aa (af cW (af aM (af dJ (af ixD (va 0) (af bb (cI 1) (va 3))) (cI 9)) (cI 7)) (va 2)) ae))))) (aw [3] (jX (r1F (aa (va 1) ae)) (biF noD (aa (va 1) ae))) (gNm 3) tQ (tpF (aa (af bb (cI 1) (af aM (af ixD (va 0) (af bb (cI 1) (va 3))) (cI 9))) (aa (af cW (af aM (af dJ (af ixD (va 0) (af bb (cI 1) (va 3))) (cI 9)) (cI 7)) (va 2)) ae)))) (fCo [3] (jX (r1F (aa (va 1) ae)) (biF noD (aa (va 1) ae))) (gNm 3) tQ (frX (tpF (aa (af bb (cI 1) (af aM (af ixD (va 0) (af bb (cI 1) (va 3))) (cI 9))) (aa (af cW (af aM (af dJ (af ixD (va 0) (af bb (cI 1) (va 3))) (cI 9)) (cI 7)) (va 2)) ae))) noV (fTp (aa (frX (af bb (cI 1) (af aM (af ixD (va 0) (af bb (cI 1) (va 3))) (cI 9))) (p8 (cI 1) (af aM (af ixD (va 0) (af bb (cI 1) (va 3))) (cI 9))) noV) (aa (frX (af cW (af aM (af dJ (af ixD (va 0) (af bb (cI 1) (va 3))) (cI 9)) (cI 7)) (va 2)) noV noV) ae))))))) nxE)))
def di:Ev->Option Out:=(ah (aN 2 (evX (liG (aa (biF noD (aa (biF aS (aa (va 1) ae)) ae)) ae) (orO (lrF (aa (biF aS (aa (va 1) ae)) ae)) (l1F (aa (biF noD (aa (biF aS (aa (va 1) ae)) ae)) ae)))) (orO (lrF (aa (biF aS (aa (va 1) ae)) ae)) (l1F (aa (biF noD (aa (biF aS (aa (va 1) ae)) ae)) ae))) (fNo (aa (biF noD (aa (biF aS (aa (va 1) ae)) ae)) ae)))) (ah (aN 3 (evX (lsF (dpF ae)) (dpF ae) (fLs ae))) (ah (frF (jX (r1F (aa (biF aS (aa (va 1) ae)) ae)) (biF noD (aa (biF aS (aa (va 1) ae)) ae))) (eNm 4) (ah (aN 5 (evX (af ixD (va 0) (af bb (cI 30) (va 4))) noV noV)) (ah (ifS (orQ (au (af (bi false) (va 4) (cI 0))) (au (af (bi false) (af aM (va 5) (cI 3)) (cI 0)))) (ah (iB 3 (evX (tpF (aa (af ixD (lsF (dpF (aa (cS "any") (aa (cS "come") (aa (cS "row") ae))))) (af aM (af dJ (va 5) (cI 3)) (cI 3))) (aa (lsF (dpF ae)) ae))) noV (fTp (aa (frX (af ixD (lsF (dpF (aa (cS "any") (aa (cS "come") (aa (cS "row") ae))))) (af aM (af dJ (va 5) (cI 3)) (cI 3))) noV noV) (aa (frX (lsF (dpF ae)) (dpF ae) (fLs ae)) ae))))) nxE) nxE) (ah (wq 3 2 (af aM (af dJ (va 5) (cI 9)) (biF aS (aa (va 2) ae)))) nxE)))) (ah (rtN 3) nxE))))
theorem Cz (h0:0<=q) (h:q<12):∃n:Nat,n<=24/\ixD (.lst [.int 3,.int 4,.int 2,.int 5,.int 0,.int 6,.int 1,.int 8,.int 4,.int 12,.int 24,.int 7]) (.int q)=some (.int (n:Int)):=by
 rcases(show q=0\/q=1\/q=2\/q=3\/q=4\/q=5\/q=6\/q=7\/q=8\/q=9\/q=10\/q=11 by omega)with rfl|rfl|rfl|rfl|rfl|rfl|rfl|rfl|rfl|rfl|rfl|rfl
 ·exact⟨3,by decide,rfl⟩
 ·exact⟨4,by decide,rfl⟩
 ·exact⟨2,by decide,rfl⟩
 ·exact⟨5,by decide,rfl⟩
 ·exact⟨0,by decide,rfl⟩
 ·exact⟨6,by decide,rfl⟩
 ·exact⟨1,by decide,rfl⟩
 ·exact⟨8,by decide,rfl⟩
 ·exact⟨4,by decide,rfl⟩
 ·exact⟨12,by decide,rfl⟩
 ·exact⟨24,by decide,rfl⟩
 ·exact⟨7,by decide,rfl⟩
theorem CA (h0:0<=q) (h:q<3):q.toNat<3/\ixD (.lst [.str "any",.str "come",.str "row"]) (.int q)=some (.str (kdS q.toNat)):=by
 rcases(show q=0\/q=1\/q=2 by omega)with rfl|rfl|rfl<;>exact⟨by decide,rfl⟩
theorem F0 (a b c:D):b9 (some [a,b,c])=some [a,b,c]:=dc (show 3<big by decide)
theorem CB:b9 (some [a,b,c,d,e,f,g,h,i,j,k,l])=some [a,b,c,d,e,f,g,h,i,j,k,l]:=dc (show 12<big by decide)
def ut (f:List D->Option Sl):Prop:=∀n:Int,f [.int n]=some (.deep,.bl true)
theorem CC:ut (aO 1 1 dt):=λn=>by
 refine aP rfl ?_;unfold dt;refine dG (ax ?_ rfl);simp[az]
def F3 (f:List D->Option Sl):Prop:=∀cs:List Int,cs.length=60->∃ls:Lts,ls.length<=24/\(∀p∈ls,1<=p.1/\p.1<=9)/\f [scD cs]=some (.deep,lsD' ls)
theorem Ju:F3 (aO 1 4 d8):=λcs hc=>by
 have hs:az 4 [scD cs]=[some (.sh,scD cs),none,none,none]:=rfl;obtain⟨x,ex⟩:=iN (ns:=cs) (i:=0) (by decide) (by omega);have m12:=md x (show(0:Int)<12 by decide);obtain⟨n,hn,en⟩:=Cz m12.1 m12.2;have l2:=md (x/12) (show(0:Int)<2 by decide);have at1:∀k:Nat,∃v:Int,k<n->ixD (scD cs) (.int (1+(k:Int)))=some (.int v):=λk=>by
  by_cases h:k<n
  ·obtain⟨v,ev⟩:=iN (ns:=cs) (i:=1+(k:Int)) (by omega) (by omega);exact⟨v,λ_=>ev⟩
  ·exact⟨0,λz=>absurd z h⟩
 obtain⟨V,hV⟩:=Classical.axiomOfChoice at1;have out:∀k:Nat,k<n->True:=λ_ _=>trivial;have cm:aw [3] (jX (r1F (aa (va 1) ae)) (biF noD (aa (va 1) ae))) (gNm 3) tQ (tpF (aa (af bb (cI 1) (af aM (af ixD (va 0) (af bb (cI 1) (va 3))) (cI 9))) (aa (af cW (af aM (af dJ (af ixD (va 0) (af bb (cI 1) (va 3))) (cI 9)) (cI 7)) (va 2)) ae))) [some (scD cs),some (.int (n:Int)),some (.int (x/12%2)),none]=some ((List.range n).map λk=>ltD' (1+V k%9,V k/9%7*(x/12%2))):=by
  refine aU (xs:=List.range n) (mk:=λ(k:Nat)=>D.int (k:Int)) (out:=λk=>ltD' (1+V k%9,V k/9%7*(x/12%2))) (pj (by simp only[ai,aq,aH,ao,ar,Option.bind_some];exact fA (by omega))) (λk hk=>?_) (lt_big (by rw[length_range];omega));have hk':=List.mem_range.mp hk;have m7:=md (V k/9) (show(0:Int)<7 by decide);simp only[bZ,bg,bv,eB,lB,set_cons_succ,set_cons_zero,Option.bind_some,if_true,iJ,ai,aq,bj,aH,ao,ar,fR,jq,hV k hk',iC _ 9,iz,iC _ 7,show(0:Int)<9 from by decide,show(0:Int)<7 from by decide,show(9:Int)<1073741824 from by decide,qh (show(-1000000:Int)<x/12%2 by omega) (show x/12%2<1000000 by omega),cY];rfl
 refine⟨(List.range n).map λk=>(1+V k%9,V k/9%7*(x/12%2)),by rw[length_map,length_range];exact hn,λp hp=>?_,aP rfl ?_⟩
 ·obtain⟨k,_,rfl⟩:=List.mem_map.mp hp;have m9:=md (V k) (show(0:Int)<9 by decide);dsimp only;omega
 ·rw[hs];unfold d8;refine bw (s:=(.deep,.int (n:Int))) (U':=[some (.sh,scD cs),none,none,none]) (ax ?_ rfl) (bw (s:=(.deep,.int (x/12%2))) (U':=[some (.sh,scD cs),some (.deep,.int (n:Int)),none,none]) (ax ?_ rfl) (dG (U':=[some (.sh,scD cs),some (.deep,.int (n:Int)),some (.deep,.int (x/12%2)),none]) ?_))
  ·simp only[aG,aL,aB,bj,dF,iK,ai,aq,aH,ao,fR,Option.bind_some,ex,iC _ 12,show(0:Int)<12 from by decide,CB,map_some,en]
  ·simp only[set_cons_succ,set_cons_zero,aG,aL,aB,bj,aH,ao,fR,Option.bind_some,ex,iz (show(0:Int)<12 by decide) (by decide),iC _ 2,show(0:Int)<2 from by decide]
  ·have lt:lfL ((List.range n).map λk=>ltD' (1+V k%9,V k/9%7*(x/12%2)))=true:=eA λd hd=>by obtain⟨k,_,rfl⟩:=List.mem_map.mp hd;rfl
   have e5:lsD' ((List.range n).map λk=>(1+V k%9,V k/9%7*(x/12%2)))=.lst ((List.range n).map λk=>ltD' (1+V k%9,V k/9%7*(x/12%2))):=by unfold lsD';rw[List.map_map];rfl
   rw[e5];exact evX_lfs (d:=.lst ((List.range n).map λk=>ltD' (1+V k%9,V k/9%7*(x/12%2)))) (by simp only[set_cons_succ,set_cons_zero,aG,aL,aB,dF,cm,map_some]) rfl (by simp only[set_cons_succ,set_cons_zero,aG,aL,aB,cm]) lt
theorem Jv {gs:List Gr} (h:gs≠[]):∃g0 g,gs=g0++[g]:=⟨gs.dropLast,gs.getLast h,(List.dropLast_concat_getLast h).symm⟩
theorem Ak {α β:Type} (f:α->β):∀ (l:List α) (q:Nat),(l.map f).eraseIdx q=(l.eraseIdx q).map f
 |[],_=>rfl
 |a::l,0=>rfl
 |a::l,q+1=>by
  show f a::(l.map f).eraseIdx q=f a::(l.eraseIdx q).map f;rw[Ak f l q]
theorem vF {α:Type}:∀ (l:List α) (q:Nat) (h:q<l.length),(l[q]::l.eraseIdx q).Perm l
 |a::l,0,_=>.refl _
 |a::l,q+1,h=>by
  have ih:=vF l q (by rw[length_cons]at h;omega);exact(List.Perm.swap a _ _).trans (ih.cons a)
theorem F4 {g0} {k:Nat} {r rest} (hi:eX U i=some (.deep,gsD (g0++[(k,r)]))) (hj:eX U j=some (.deep,aA rest)) (hij:i≠j) (hR:R (vw U)=some (.int (q:Int))) (hq:q<rest.length) (h1:rest.length<=24) (h2:r.length<=24):
  wq i j R U=some (.nx ((U.set j (some (.deep,aA (rest.eraseIdx q)))).set i (some (.deep,gsD (g0++[(k,r++[rest[q]])]))))):=by
 unfold wq
 have d1:jk U i=some ((g0++[(k,r)]).map grD):=by unfold jk;rw[show em U i=some (.deep,(g0++[(k,r)]).map grD)by unfold em;rw[hi];rfl];rfl
 have d2:jk U j=some (rest.map λ(k:Nat)=>D.int (k:Int)):=by unfold jk;rw[show em U j=some (.deep,rest.map λ(k:Nat)=>D.int (k:Int))by unfold em;rw[hj];rfl];rfl
 have d3:rK ((g0++[(k,r)]).map grD)=some (g0.length,.str (kdS k),r.map λ(k:Nat)=>D.int (k:Int)):=by
  unfold rK;have e:((g0++[(k,r)]).map grD).length-1=g0.length:=by rw[length_map,length_append];show g0.length+1-1=_;omega
  rw[if_neg (by rw[List.map_append];simp),e,List.map_append,getElem?_append_right (by rw[length_map];exact le_refl _),length_map,Nat.sub_self];show(if lfD (.str (kdS k))=true then _ else _)=_;exact if_pos rfl
 rw[d1,Option.bind_some,d3,Option.bind_some,d2,Option.bind_some,hR,Option.bind_some]
 have e1:yG (rest.map λ(k:Nat)=>D.int (k:Int)).length (.int (q:Int))=some q:=by
  rw[length_map];show(if 0<=(q:Int)/\(q:Int)<=(rest.length:Int)then some (q:Int).toNat else none)=_;rw[if_pos ⟨by omega,by omega⟩,Int.toNat_natCast]
 have e2:(rest.map λ(k:Nat)=>D.int (k:Int))[q]?=some (.int (rest[q]:Nat)):=by rw[getElem?_map,getElem?_eq_getElem hq];rfl
 rw[e1,Option.bind_some,e2,Option.bind_some,if_pos ⟨hij,rfl,by rw[length_map];exact lt_big (by omega),by show(r.map _).length+1<big;rw[length_map];exact lt_big (by omega)⟩]
 have e3:(rest.map λ(k:Nat)=>D.int (k:Int)).eraseIdx q=(rest.eraseIdx q).map λ(k:Nat)=>D.int (k:Int):=Ak _ _ _
 have e4:((g0++[(k,r)]).map grD).set g0.length (.tup [.str (kdS k),.lst ((r.map λ(k:Nat)=>D.int (k:Int))++[.int (rest[q]:Nat)])])=(g0++[(k,r++[rest[q]])]).map grD:=by
  rw[List.map_append,List.set_append_right _ _ (by rw[length_map];exact le_refl _),length_map,Nat.sub_self,List.map_append];have e5:aA (r++[rest[q]])=.lst ((r.map λ(k:Nat)=>D.int (k:Int))++[.int (rest[q]:Nat)]):=by unfold aA;rw[List.map_append];rfl
  rw[<-e5];rfl
 dsimp only
 rw[e3,e4]
 rfl
def F5 (f:List D->Option Sl):Prop:=∀ (cs:List Int) (ls:Lts),cs.length=60->ls.length<=24->∃gs:List Gr,Good ls.length gs/\f [scD cs,lsD' ls]=some (.deep,gsD gs)
theorem fX (g0:List Gr) (g:Gr):bR (g0++[g])=bR g0++g.2:=by unfold bR;rw[List.flatMap_append];simp
theorem Jw:F5 (aO 2 6 di):=λcs ls hc h24=>by
 have hs:az 6 [scD cs,lsD' ls]=[some (.sh,scD cs),some (.sh,lsD' ls),none,none,none,none]:=rfl;have y:cA (lsD' ls)=some (ls.map ltD'):=rfl;have len1:aS [lsD' ls]=some (.int (ls.length:Int)):=by simp only[nw,y,Option.bind_some,length_map]
 have key:∃gs,di [some (.sh,scD cs),some (.sh,lsD' ls),none,none,none,none]=some (.rt (.deep,gsD gs))/\Good ls.length gs:=by
  unfold di;have lr:orO (lrF (aa (biF aS (aa (va 1) ae)) ae)) (l1F (aa (biF noD (aa (biF aS (aa (va 1) ae)) ae)) ae)) [some (scD cs),some (lsD' ls),none,none,none,none]=some ((List.range ls.length).map λ(k:Nat)=>D.int (k:Int)):=Jf h24 (by simp only[ai,aq,fz,aH,ao,ar,Option.bind_some,len1]);refine jw (s:=(.deep,aA (List.range ls.length))) (U':=[some (.sh,scD cs),some (.sh,lsD' ls),none,none,none,none]) (evX_lfs (d:=aA (List.range ls.length)) (lj lr) rfl lr (um _)) ?_;refine jw (s:=(.deep,gsD [])) (U':=[some (.sh,scD cs),some (.sh,lsD' ls),some (.deep,aA (List.range ls.length)),none,none,none]) (evX_lfs (d:=.lst []) (ds:=[]) (by simp) rfl (by simp) rfl) ?_;refine Dw (n:=ls.length) (s:=4) (v:=λi=>(i:Int)) (λi U=>∃rest gs o4 o5,rest.length+i=ls.length/\(bR gs++rest).Perm (List.range ls.length)/\(∀g∈gs,g.2≠[]/\g.1<3)/\(i=0\/gs≠[])/\U=[some (.sh,scD cs),some (.sh,lsD' ls),some (.deep,aA rest),some (.deep,gsD gs),o4,o5]) ?_ ⟨List.range ls.length,[],none,none,by rw[length_range];rfl,.refl _,(λ_ h=>nomatch h),.inl rfl,rfl⟩ ?_ ?_
  ·exact pj (by
    show(aa (biF aS (aa (va 1) ae)) ae [some (scD cs),some (lsD' ls),none,none,none,none]).bind rc=_;simp only[ai,aq,fz,aH,ao,ar,Option.bind_some,len1];exact fA (by omega))
  ·rintro i U hi ⟨rest,gs,o4,o5,hl,pm,hg,hne,rfl⟩;obtain⟨x,ex⟩:=iN (ns:=cs) (i:=30+(i:Int)) (by omega) (by omega);have m3:=md (x/3) (show(0:Int)<3 by decide);obtain⟨k3,ek⟩:=CA m3.1 m3.2;have hrp:0<rest.length:=by omega
   have mq:=md (x/9) (show(0:Int)<(rest.length:Int)by omega);have hfl:(bR gs).length+rest.length=ls.length:=by have:=pm.length_eq;rw[length_append,length_range]at this;exact this
   obtain⟨q,hq⟩:∃q:Nat,x/9%(rest.length:Int)=(q:Int):=⟨(x/9%(rest.length:Int)).toNat,by omega⟩;have hq':q<rest.length:=by omega
   refine jw (s:=(.deep,.int x)) (U':=[some (.sh,scD cs),some (.sh,lsD' ls),some (.deep,aA rest),some (.deep,gsD gs),some (.sh,.int (i:Int)),o5]) (ax ?_ rfl) ?_
   ·show((some (D.int (30+(i:Int)))).bind λy=>ixD (scD cs) y)=_;rw[Option.bind_some,ex]
   ·have tail:∀ (g0:List Gr) (k:Nat) (r:List Nat),bR (g0++[(k,r)])=bR gs->(∀g∈g0,g.2≠[]/\g.1<3)->k<3->∃a,ah (wq 3 2 (af aM (af dJ (va 5) (cI 9)) (biF aS (aa (va 2) ae)))) nxE [some (.sh,scD cs),some (.sh,lsD' ls),some (.deep,aA rest),some (.deep,gsD (g0++[(k,r)])),some (.sh,.int (i:Int)),some (.deep,.int x)]=some (.nx a)/\∃rest gs o4 o5,rest.length+(i+1)=ls.length/\(bR gs++rest).Perm (List.range ls.length)/\(∀g∈gs,g.2≠[]/\g.1<3)/\(i+1=0\/gs≠[])/\a=[some (.sh,scD cs),some (.sh,lsD' ls),some (.deep,aA rest),some (.deep,gsD gs),o4,o5]:=by
     intro g0 k r hf h0 hk;have hrl:r.length<=(bR gs).length:=by rw[<-hf,fX,length_append];show r.length<=_+r.length;omega
     refine Jg (F4 (g0:=g0) (k:=k) (r:=r) (rest:=rest) (q:=q) rfl rfl (by decide) ?_ hq' (by omega) (by omega)) ⟨rest.eraseIdx q,g0++[(k,r++[rest[q]])],some (.sh,.int (i:Int)),some (.deep,.int x),?_,?_,λg hg'=>?_,.inr (by simp),rfl⟩
     ·show((dJ (.int x) (.int 9)).bind λa=>(aS [aA rest]).bind λb=>aM a b)=_;rw[iz (by decide) (by decide),vB,Option.bind_some,Option.bind_some,iC _ _ (by omega),hq]
     ·rw[List.length_eraseIdx_of_lt hq'];omega
     ·refine List.Perm.trans ?_ pm;rw[<-hf,fX,fX];show(bR g0++(r++[rest[q]])++rest.eraseIdx q).Perm (bR g0++r++rest);rw[<-List.append_assoc,List.append_assoc (bR g0++r)];exact(vF rest q hq').append_left _
     ·rcases mem_append.mp hg' with h|h
      ·exact h0 g h
      ·rw[mem_singleton.mp h];exact⟨by simp,hk⟩
    have ct:orQ (au (af (bi false) (va 4) (cI 0))) (au (af (bi false) (af aM (va 5) (cI 3)) (cI 0))) (vw [some (.sh,scD cs),some (.sh,lsD' ls),some (.deep,aA rest),some (.deep,gsD gs),some (.sh,.int (i:Int)),some (.deep,.int x)])=some (decide (i=0\/x%3=0)):=by
     simp only[vi,dN,bj,aH,aG,aB,ao,ar,fR,Option.bind_some,pv,iC _ 3,show(0:Int)<3 from by decide,gO];by_cases h1:i=0
     ·simp[h1]
     ·simp[h1]
    by_cases h:i=0\/x%3=0
    ·rw[decide_eq_true h]at ct;refine nC (b:=true) ct ⟨_,(av (uq (c:=.deep) (s:=(.deep,grD ((x/3%3).toNat,[]))) (ds:=gs.map grD) rfl (by decide) ?_ ?_)).trans rfl,?_⟩
     ·have kk:af ixD (lsF (dpF (aa (cS "any") (aa (cS "come") (aa (cS "row") ae))))) (af aM (af dJ (va 5) (cI 3)) (cI 3)) [some (scD cs),some (lsD' ls),some (aA rest),some (gsD gs),some (.int (i:Int)),some (.int x)]=some (.str (kdS (x/3%3).toNat)):=by
       simp only[bj,dF,iK,ai,aq,KR,Option.bind_some,F0,map_some,aH,ao,ar,fR,iz (show(0:Int)<3 by decide) (by decide),iC _ 3,show(0:Int)<3 from by decide,ek]
      have f1:=uo (L:=noV) (Sp:=noV) kk rfl;refine jn (d:=grD ((x/3%3).toNat,[])) (e:=grD ((x/3%3).toNat,[])) ?_ rfl rfl ?_
      ·show tpF _ [some (scD cs),some (lsD' ls),some (aA rest),some (gsD gs),some (.int (i:Int)),some (.int x)]=_;simp only[iJ,ai (a:=af _ _ _),kk,ai (a:=lsF _),dF,iK,aq,Option.bind_some,cY,Fd,map_some];rfl
      ·show fTp _ [some (scD cs),some (lsD' ls),some (aA rest),some (gsD gs),some (.int (i:Int)),some (.int x)]=_;have f2:frX (lsF (dpF ae)) (dpF ae) (fLs ae) [some (scD cs),some (lsD' ls),some (aA rest),some (gsD gs),some (.int (i:Int)),some (.int x)]=some (.lst []):=j9 rfl rfl rfl;simp only[zf,ai (a:=frX _ _ _),f1,f2,aq,Option.bind_some,cY];rfl
     ·rw[length_map];have:=gT (gs:=gs) λg h=>(hg g h).1;exact lt_big (by omega)
     ·have t:=tail gs (x/3%3).toNat [] (by rw[fX];exact List.append_nil _) hg k3;have e:gsD (gs++[((x/3%3).toNat,[])])=.lst (gs.map grD++[grD ((x/3%3).toNat,[])]):=by unfold gsD;rw[List.map_append];rfl
      rw[e]at t;exact t
    ·rw[decide_eq_false h]at ct;obtain⟨g0,⟨k,r⟩,rfl⟩:=Jv (gs:=gs) (hne.resolve_left λz=>h (.inl z));exact nC (b:=false) ct ⟨_,rfl,tail g0 k r rfl (λg hg'=>hg g (mem_append_left _ hg')) (hg (k,r) (mem_append_right _ mem_cons_self)).2⟩
  ·rintro U ⟨rest,gs,o4,o5,hl,pm,hg,hne,rfl⟩;have:rest=[]:=List.length_eq_zero_iff.mp (by omega);subst this;rw[List.append_nil]at pm;exact⟨gs,rfl,pm,λg h=>(hg g h).1,λg h=>(hg g h).2,h24⟩
 obtain⟨gs,e,G⟩:=key;exact⟨gs,G,aP rfl (by rw[hs];exact e)⟩
section
variable {f:List D->Option Sl} {xs:Vv->Option (List D)} {U:Ev} {ds:List D} {d:D}
theorem ev_cl (h:xs (vw U)=some ds) (e:f ds=some (.deep,d)) (nl:lfD d=false):evX (clF f xs) noV (fCl f xs) U=some ((.deep,d),U):=jn (by rw[cK,h,Option.bind_some,e];rfl) nl rfl (by rw[Di,h,Option.bind_some,e];rfl)
end
theorem Al {R L Sp} (h:R (vw U)=some d) (f:lfD d=false) (hl:L (vw U)=none) (hs:Sp (vw U)=none) (hl2:L (shv U)=none) (h2:R (shv U)=none):evX R L Sp U=some ((.sh,d),fM U):=by
 unfold evX orO fN kR tu xV frX orO lfO gE;simp only[h,hl,hs,hl2,h2,f,Option.bind_some,Option.bind_none];rfl
end K16
namespace K16
open PySem PySem.Spec PyProof.Rows L2
def bU (bA:List D->Option Sl):Ev->Option Str:=(thZ (ifZ (orQ (dY (trF (biF gB (aa (va 1) (aa (tpF (aa (cT "list") (aa (cT "tuple") ae))) ae))))) (au (af gtD (biF aS (aa (va 1) ae)) (cD (.int 24))))) (raZ "BadLetters") noZ) (ifS (orQ (dY (trF (biF gB (aa (va 1) (aa (tpF (aa (cT "list") (aa (cT "tuple") ae))) ae))))) (au (af gtD (biF aS (aa (va 1) ae)) (cD (.int 24))))) (ah noO' nxE) nxE) (ifZ (dY (trF (biF n4 (aa (lsF (aw [2] (jX noV (va 1)) (gNm 2) tQ (clF bA (aa (va 0) (aa (va 2) ae))))) ae)))) (raZ "BadLetters") noZ))
def Am (f:List D->Option Sl):Prop:=f [.lst []]=some (.deep,.int 1)
theorem F6:Am (aO 1 3 nB):=rfl
def An (f:List D->Option Sl):Prop:=f [.lst []]=some (.deep,.bl true)
theorem F7 (hc:Am c):An (aO 1 2 (fS c g)):=by
 have e:c [.lst []]=some (.deep,.int 1):=hc;refine aP rfl ?_;unfold fS;refine gh rfl (dG (ax (d:=.bl true) ?_ rfl));have h:clF c (aa (va 0) ae) [some (.lst []),none]=some (.int 1):=by simp only[cK,ai,aq,aH,ao,Option.bind_some,e,aR]
 show nZ _ (af leD (clF c (aa (va 0) ae)) _) [some (.lst []),none]=_;unfold nZ af;rw[h];rfl
def ss (g:List D->Option (List (Str×D))):Prop:=g [.lst []]=some [(("passes":Str),D.tup [])]
theorem F8 (h:An fa):ss (gW 2 3 (j2 fa)):=Dy (r:=[(("passes":Str),D.tup [])]) λy=>by
 have e:fa [.lst []]=some (.deep,.bl true):=h;show j2 fa y [some (.sh,.adr y),some (.sh,.lst []),none] []=_;unfold j2;have c0:ifS (dY (trF (clF fa (aa (va 1) ae)))) (ah noO' nxE) nxE [some (.sh,.adr y),some (.sh,.lst []),none]=some (.nx [some (.sh,.adr y),some (.sh,.lst []),none]):=by
  refine(iI ?_).trans rfl;simp only[aG,aL,aB,jZ,pi,cK,ai,aq,aH,ao,ar,Option.bind_some,e,aR,iw,map_some,Bool.not_true]
 unfold L2.stI;rw[c0];dsimp only[Option.bind_some];exact(qw (s:=(.deep,.tup [])) (ax (d:=.tup []) rfl rfl) rfl (by decide)).trans rfl
abbrev gX:D:=.obj "Mill" ["passes"] [.tup []]
def okZ (p:Int×Int):Bool:=(decide (1<=p.1)&&decide (p.1<=9))&&(decide (0<=p.2)&&decide (p.2<=0))
def Ao (mt:MT) (kk:Nat):Prop:=kU mt kk "many" gX []=some (.deep,.int 0)
theorem CD (hf:fl "Mill" "passes"=true):aO 1 1 (eC fl) [gX]=some (.deep,.int 0):=Fg hf []
def uu (f:List D->Option Sl):Prop:=∀t:Int,f [gX,.int t]=some (.deep,.bl (decide (0<=t)&&decide (t<=0)))
theorem CF {mt kk w} (hm:Ao mt kk) (hw:jt w):uu (aO 2 2 (j3 mt kk w)):=λt=>by
 have e:kU mt kk "many" gX []=some (.deep,.int 0):=hm;refine aP rfl ?_;unfold j3;refine dG (ax ?_ rfl);simp[az,e,hw t 0 0]
def su (f:List D->Option Sl):Prop:=∀p:Int×Int,f [gX,ltD' p]=some (.deep,.bl (okZ p))
theorem F9 (hl:uu la) (hs:zp si):su (aO 2 2 (gQ la si)):=λp=>by
 refine aP rfl ?_;unfold gQ;refine gh ?_ (dG (ax ?_ rfl))
 ·simp[az,ltD']
 ·have e1:=hs p.1;have e2:=hl p.2;cases hb:(decide (1<=p.1)&&decide (p.1<=9))with
  |false=>rw[hb]at e1;simp[az,ltD',e1,okZ,hb]
  |true=>rw[hb]at e1;simp[az,ltD',e1,e2,okZ,hb]
abbrev cL1:Vv->Option Bool:=orQ (dY (trF (biF gB (aa (va 1) (aa (tpF (aa (cT "list") (aa (cT "tuple") ae))) ae))))) (au (af gtD (biF aS (aa (va 1) ae)) (cD (.int 24))))
theorem Ap (h:qs.length<=24):cL1 [some gX,some (lsD' qs),none]=some false:=by
 have:=decide_eq_false (show¬ (24:Int)<(qs.length:Int)by omega);simp[lsD',this]
theorem Dz (hl:su le) (h:qs.length<=24):dY (trF (biF n4 (aa (lsF (aw [2] (jX noV (va 1)) (gNm 2) tQ (clF le (aa (va 0) (aa (va 2) ae))))) ae))) [some gX,some (lsD' qs),none]=some (!qs.all okZ):=by
 have hm:aw [2] (jX noV (va 1)) (gNm 2) tQ (clF le (aa (va 0) (aa (va 2) ae))) [some gX,some (lsD' qs),none]=some (qs.map λq=>.bl (okZ q)):=by
  refine aU (xs:=qs) (mk:=ltD') rfl (λq _=>?_) (lt_big (by omega));simp[hl q]
 simp[hm,nz qs okZ]
def uv (f:List D->Option Sl):Prop:=∀qs:Lts,qs.length<=24->qs.all okZ=true->f [gX,lsD' qs]=some (.deep,.non)
theorem CG (hl:su le):uv (aO 2 3 (cM le)):=λqs h24 h=>by
 have hs:az 3 [gX,lsD' qs]=[some (.sh,gX),some (.sh,lsD' qs),none]:=rfl;have e:=Dz hl h24;rw[h]at e;refine zm rfl (U:=az 3 [gX,lsD' qs]) ?_;rw[hs];unfold cM;exact gh (Ap h24) (gh e rfl)
def uw (z:List D->Option Str):Prop:=∀qs:Lts,qs.length<=24->z [gX,lsD' qs]=if qs.all okZ=true then none else some ("BadLetters":Str)
theorem Aq (hl:su le):uw (rX 2 3 (bU le)):=λqs h24=>by
 show bU le [some (.sh,gX),some (.sh,lsD' qs),none]=_;unfold bU;refine(Jb ((Jc (Ap h24)).trans rfl) ((iI (Ap h24)).trans rfl)).trans ?_;refine(Jc (Dz hl h24)).trans ?_;cases qs.all okZ<;>rfl
end K16
namespace K16
open PySem PySem.Spec PyProof.Rows L2
abbrev Pr:=List (Int×Int)
def mst (P:Pr):Int:=mxZ (P.map (·.2))
def lsx (P:Pr):Int:=mxZ ((P.filter λp=>decide (p.2=mst P)).map (·.1))
def cdA (P:Pr) (a:Int):Int:=if P.isEmpty=true then 0 else if lsx P<a then mst P else mst P+1
def duS (P:Pr) (l:List Int):Pr:=P++l.map λa=>(a,cdA P a)
def duN (P:Pr):Int:=if P.isEmpty=true then 0 else mst P+1
def lss (e:Int) (l:List Int):List Int:=l.filter λa=>decide (a<e)
def cnS (z:Int×Int) (l:List Int):Int×Int:=if(lss z.2 l).isEmpty=true then(z.1,mxZ l)else(z.1+1,mxZ (lss z.2 l))
theorem emp {α:Type} {l:List α} (h:l≠[]):¬l.isEmpty=true:=λz=>h (List.isEmpty_iff.mp z)
theorem jy {P:Pr} (h:P≠[]):(∃p∈P,p.2=mst P)/\∀p∈P,p.2<=mst P:=by
 obtain⟨a,b⟩:=fg (ns:=P.map (·.2)) (by simpa using h);obtain⟨p,hp,e⟩:=List.mem_map.mp a;exact⟨⟨p,hp,e⟩,λq hq=>b _ (List.mem_map.mpr ⟨q,hq,rfl⟩)⟩
theorem ux (h1:∃p∈P,p.2=m) (h2:∀p∈P,p.2<=m):mst P=m:=by
 obtain⟨p,hp,e⟩:=h1;refine(tK (List.mem_map.mpr ⟨p,hp,e⟩) λy hy=>?_).symm;obtain⟨q,hq,rfl⟩:=List.mem_map.mp hy;exact h2 q hq
theorem Ar {P:Pr} (h:P≠[]):((P.filter λp=>decide (p.2=mst P)).map (·.1))≠[]:=by
 obtain⟨p,hp,e⟩:=(jy h).1;intro z;have:p.1∈((P.filter λp=>decide (p.2=mst P)).map (·.1)):=List.mem_map.mpr ⟨p,List.mem_filter.mpr ⟨hp,decide_eq_true e⟩,rfl⟩;rw[z]at this;cases this
theorem As {P:Pr} (h:P≠[]):(∃p∈P,p.2=mst P/\p.1=lsx P)/\∀p∈P,p.2=mst P->p.1<=lsx P:=by
 obtain⟨a,b⟩:=fg (Ar h);obtain⟨p,hp,e⟩:=List.mem_map.mp a;obtain⟨hp,e2⟩:=List.mem_filter.mp hp;exact⟨⟨p,hp,of_decide_eq_true e2,e⟩,λq hq z=>b _ (List.mem_map.mpr ⟨q,List.mem_filter.mpr ⟨hq,decide_eq_true z⟩,rfl⟩)⟩
theorem uy (hm:mst P=m) (h1:∃p∈P,p.2=m/\p.1=e) (h2:∀p∈P,p.2=m->p.1<=e):lsx P=e:=by
 obtain⟨p,hp,e1,e2⟩:=h1;unfold lsx;rw[hm];refine(tK (List.mem_map.mpr ⟨p,List.mem_filter.mpr ⟨hp,decide_eq_true e1⟩,e2⟩) λy hy=>?_).symm;obtain⟨q,hq,rfl⟩:=List.mem_map.mp hy;obtain⟨hq,z⟩:=List.mem_filter.mp hq;exact h2 q hq (of_decide_eq_true z)
theorem mem_du:p∈duS P l↔p∈P\/∃a∈l,p=(a,cdA P a):=by
 unfold duS;rw[mem_append,List.mem_map];exact or_congr Iff.rfl ⟨λ⟨a,h,e⟩=>⟨a,h,e.symm⟩,λ⟨a,h,e⟩=>⟨a,h,e.symm⟩⟩
theorem mem_lss:a∈lss e l↔a∈l/\a<e:=by
 unfold lss;rw[List.mem_filter,decide_eq_true_iff]
def Cn (m:Int) (P:Pr) (z:Int×Int):Prop:=if P.isEmpty=true then z=(0,m)else z=(mst P+1,lsx P)
theorem CH (h:Cn m P z) (hl:l≠[]) (hm:∀a∈l,a<m) (hn:∀a∈l,∀p∈P,p.1≠a):Cn m (duS P l) (cnS z l):=by
 obtain⟨b,hb⟩:=List.exists_mem_of_ne_nil l hl;have ne:duS P l≠[]:=λq=>by
  have:=mem_du.mpr (.inr ⟨b,hb,rfl⟩:(b,cdA P b)∈P\/∃a∈l,(b,cdA P b)=(a,cdA P a));rw[q]at this;cases this
 obtain⟨x1,x2⟩:=fg hl;unfold Cn at h⊢;rw[if_neg (emp ne)];by_cases hP:P=[]
 ·subst hP;have h:z=(0,m):=h;subst h;have e0:lss m l=l:=List.filter_eq_self.mpr λa ha=>decide_eq_true (hm a ha);unfold cnS;rw[show((0,m):Int×Int).2=m from rfl,e0,if_neg (emp hl)];have m0:mst (duS [] l)=0:=ux ⟨_,mem_du.mpr (.inr ⟨b,hb,rfl⟩),rfl⟩ λp hp=>by
   rcases mem_du.mp hp with z|⟨a,ha,rfl⟩
   ·cases z
   ·exact Int.le_refl _
  have l0:lsx (duS [] l)=mxZ l:=uy m0 ⟨_,mem_du.mpr (.inr ⟨_,x1,rfl⟩),rfl,rfl⟩ λp hp _=>by
   rcases mem_du.mp hp with z|⟨a,ha,rfl⟩
   ·cases z
   ·exact x2 a ha
  rw[m0,l0]
 ·rw[if_neg (emp hP)]at h;subst h;obtain⟨⟨p0,hp0,ep0⟩,mx⟩:=jy hP;obtain⟨⟨p1,hp1,ep1,ep2⟩,lx⟩:=As hP;have cd:∀a,cdA P a=if lsx P<a then mst P else mst P+1:=λa=>if_neg (emp hP);have na:∀a∈l,a≠lsx P:=λa ha z=>hn a ha p1 hp1 (by rw[ep2,z]);unfold cnS;show(if(lss (lsx P) l).isEmpty=true then(mst P+1,mxZ l)else(mst P+1+1,mxZ (lss (lsx P) l)))=_;by_cases hs:lss (lsx P) l=[]
  ·rw[if_pos (by rw[hs];rfl)];have gt:∀a∈l,lsx P<a:=λa ha=>by
    have:¬a<lsx P:=λz=>by
     have:=mem_lss.mpr ⟨ha,z⟩;rw[hs]at this;cases this
    have:=na a ha;omega
   have ca:∀a∈l,cdA P a=mst P:=λa ha=>by rw[cd,if_pos (gt a ha)]
   have m1:mst (duS P l)=mst P:=ux ⟨p0,mem_du.mpr (.inl hp0),ep0⟩ λp hp=>by
    rcases mem_du.mp hp with z|⟨a,ha,rfl⟩
    ·exact mx p z
    ·exact Int.le_of_eq (ca a ha)
   have l1:lsx (duS P l)=mxZ l:=uy m1 ⟨_,mem_du.mpr (.inr ⟨_,x1,rfl⟩),ca _ x1,rfl⟩ λp hp e=>by
    rcases mem_du.mp hp with z|⟨a,ha,rfl⟩
    ·have:=lx p z e;have:=gt _ x1;omega
    ·exact x2 a ha
   rw[m1,l1]
  ·rw[if_neg (emp hs)];obtain⟨y1,y2⟩:=fg hs;have c1:=mem_lss.mp y1;have lo:∀a,a<lsx P->cdA P a=mst P+1:=λa ha=>by rw[cd,if_neg (by omega)]
   have m1:mst (duS P l)=mst P+1:=ux ⟨_,mem_du.mpr (.inr ⟨_,c1.1,rfl⟩),lo _ c1.2⟩ λp hp=>by
    rcases mem_du.mp hp with z|⟨a,ha,rfl⟩
    ·have:=mx p z;omega
    ·show cdA P a<=_;rw[cd];split<;>omega
   have l1:lsx (duS P l)=mxZ (lss (lsx P) l):=uy m1 ⟨_,mem_du.mpr (.inr ⟨_,c1.1,rfl⟩),lo _ c1.2,rfl⟩ λp hp e=>by
    rcases mem_du.mp hp with z|⟨a,ha,rfl⟩
    ·have:=mx p z;omega
    ·have e:cdA P a=mst P+1:=e;rw[cd]at e;refine y2 a (mem_lss.mpr ⟨ha,?_⟩);have:=na a ha;by_cases q:lsx P<a
     ·rw[if_pos q]at e;omega
     ·omega
   rw[m1,l1]
def duL (lv:List (List Int)):Pr:=lv.foldl duS []
def cnL (m:Int) (lv:List (List Int)):Int×Int:=lv.foldl cnS (0,m)
theorem qz (lv:List (List Int)):∀P:Pr,(lv.foldl duS P).map (·.1)=P.map (·.1)++lv.flatten:=by
 induction lv with
 |nil=>intro P;rw[List.flatten_nil,List.append_nil];rfl
 |cons l lv ih=>
  intro P;rw[List.foldl_cons,ih,List.flatten_cons,<-List.append_assoc];congr 1;unfold duS;rw[List.map_append,List.map_map];congr 1;exact(List.map_congr_left λ_ _=>rfl).trans (List.map_id _)
theorem At:∀ (lv:List (List Int)) (P:Pr) (z:Int×Int),Cn m P z->(∀l∈lv,l≠[])->(∀a∈lv.flatten,a<m)->(P.map (·.1)++lv.flatten).Nodup->Cn m (lv.foldl duS P) (lv.foldl cnS z)
 |[],P,z,h,_,_,_=>h
 |l::lv,P,z,h,hl,hm,hn=>by
  rw[List.flatten_cons,<-List.append_assoc]at hn;refine At lv (duS P l) (cnS z l) (CH h (hl l mem_cons_self) (λa ha=>hm a ?_) λa ha p hp e=>?_) (λx hx=>hl x (mem_cons_of_mem _ hx)) (λa ha=>hm a ?_) ?_
  ·rw[List.flatten_cons];exact mem_append_left _ ha
  ·have q:=(List.nodup_append.mp (List.nodup_append.mp hn).1).2.2 p.1 (List.mem_map.mpr ⟨p,hp,rfl⟩) a ha;exact q e
  ·rw[List.flatten_cons];exact mem_append_right _ ha
  ·have:=qz [l] P;rw[List.foldl_cons,List.foldl_nil,List.flatten_cons,List.flatten_nil,List.append_nil]at this;rw[this];exact hn
theorem Jx (hl:∀l∈lv,l≠[]) (hm:∀a∈lv.flatten,a<m) (hn:lv.flatten.Nodup):(cnL m lv).1=duN (duL lv):=by
 have h:=At lv [] (0,m) (show(0,m)=(0,m)from rfl) hl hm (by rw[List.map_nil,List.nil_append];exact hn);unfold Cn at h;unfold cnL duN duL;split at h
 ·rename_i q;rw[h,if_pos q]
 ·rename_i q;rw[h,if_neg q]
theorem Au:∀ (lv:List (List Int)) (P:Pr),(∀p∈P,0<=p.2)->∀p∈lv.foldl duS P,0<=p.2
 |[],P,h=>h
 |l::lv,P,h=>Au lv (duS P l) λp hp=>by
  rcases mem_du.mp hp with z|⟨a,ha,rfl⟩
  ·exact h p z
  ·show 0<=cdA P a;unfold cdA;split
   ·exact Int.le_refl _
   ·rename_i q;obtain⟨⟨p0,hp0,ep0⟩,_⟩:=jy (P:=P) λz=>q (by rw[z];rfl);have:=h p0 hp0;split<;>omega
def ndS (n:Int) (p:Int×Int):Int:=if p.2+1>n then p.2+1 else n
theorem vG:∀ (P:Pr) (n:Int),n<=P.foldl ndS n/\(∀p∈P,p.2+1<=P.foldl ndS n)/\(P.foldl ndS n=n\/∃p∈P,P.foldl ndS n=p.2+1)
 |[],n=>⟨Int.le_refl _,λ_ h=>(nomatch h),.inl rfl⟩
 |p::P,n=>by
  obtain⟨a,b,c⟩:=vG P (ndS n p);have e:ndS n p=if p.2+1>n then p.2+1 else n:=rfl;have h1:n<=ndS n p/\p.2+1<=ndS n p:=by rw[e];split<;>omega
  refine⟨Int.le_trans h1.1 a,λq hq=>?_,?_⟩
  ·rcases mem_cons.mp hq with rfl|hq
   ·exact Int.le_trans h1.2 a
   ·exact b q hq
  ·rcases c with c|⟨q,hq,c⟩
   ·show P.foldl ndS (ndS n p)=n\/∃q∈p::P,P.foldl ndS (ndS n p)=q.2+1;rw[c,e];split
    ·exact .inr ⟨p,mem_cons_self,rfl⟩
    ·exact .inl rfl
   ·exact .inr ⟨q,mem_cons_of_mem _ hq,c⟩
theorem Jy (h:∀p∈P,0<=p.2):P.foldl ndS 0=duN P:=by
 obtain⟨_,b,c⟩:=vG P 0;unfold duN;by_cases hP:P=[]
 ·subst hP;rfl
 ·rw[if_neg (emp hP)];obtain⟨⟨p0,hp0,ep0⟩,mx⟩:=jy hP;have:=b p0 hp0;have:=h p0 hp0;rcases c with c|⟨q,hq,c⟩
  ·omega
  ·have:=mx q hq;omega
end K16
namespace K16
open PySem PySem.Spec PyProof.Rows L2
def d9 (mt_levels:MT) (kk:Nat) (gZ:List D->Option (List (Str×D))) (bh:List D->Option Sl):Ev->Option Out:=(ah (mQ (clF bh (aa (mkF "Mill" gZ (aa (lsF (dpF ae)) ae)) (aa (va 0) ae)))) (ah (aN 2 (evX (cI 0) noV noV)) (ah (aN 3 (evX (biF aS (aa (va 0) ae)) noV (fNo (aa (va 0) ae)))) (ah (frF (jX noV (meF (va 1) ae mt_levels kk "levels")) (eNm 4) (ah (aN 5 (evX (lsF (aw [6] (jX noV (va 4)) (gNm 6) (au (af ltD (va 6) (va 3))) (va 6))) (aw [6] (jX noV (va 4)) (gNm 6) (au (af ltD (va 6) (va 3))) (va 6)) (fCo [6] (jX noV (va 4)) (gNm 6) (au (af ltD (va 6) (va 3))) (frX (va 6) noV noV)))) (ah (ifS (au (af gtD (biF aS (aa (va 5) ae)) (cI 0))) (ah (aN 2 (evX (af bb (va 2) (cI 1)) (p8 (va 2) (cI 1)) noV)) nxE) nxE) (ah (aN 3 (evX (biF lz (aa (ifF (au (af gtD (biF aS (aa (va 5) ae)) (cI 0))) (va 5) (va 4)) ae)) noV (fNo (aa (ifF (au (af gtD (biF aS (aa (va 5) ae)) (cI 0))) (va 5) (va 4)) ae)))) nxE)))) (ah (rtN 2) nxE)))))
def cz (gZ:List D->Option (List (Str×D))) (aY:List D->Option Str):Ev->Option Str:=(clZ (aa (mkF "Mill" gZ (aa (lsF (dpF ae)) ae)) (aa (va 0) ae)) aY)
def i8 (jW:MT) (kk:Nat):Ev->Option Out:=(ah (aN 1 (evX noV noV dcN)) (ah (aN 2 (evX (cI 0) noV noV)) (ah (aN 3 (evX (cI 0) noV noV)) (ah (frF (jX noV (va 0)) (eNm 4) (ah (aN 6 (evX cN noV noV)) (ah (ifS (au (af gtD (biF aS (aa (va 1) ae)) (cI 0))) (ah (aN 3 (evX (mxV (va 1)) noV (fNo (aa (meF (va 1) ae jW kk "values") ae)))) (ah (aN 6 (evX (mxC (rE 1 [5] (gNm 5) (au (af (bi false) (af ixD (va 1) (va 5)) (va 3))) (va 5))) noV (fNo (aa (lsF (aw [5] (jX noV (va 1)) (gNm 5) (au (af (bi false) (af ixD (va 1) (va 5)) (va 3))) (va 5))) ae)))) nxE)) nxE) (ah (frF (jX noV (va 4)) (eNm 5) (ah (ifS (au (af (Bh false) (va 6) cN)) (ah (gN 1 (va 5) (evX (cI 0) noV noV) (cI 0)) nxE) (ah (ifS (au (af gtD (va 5) (va 6))) (ah (gN 1 (va 5) (evX (va 3) noV noV) (va 3)) nxE) (ah (gN 1 (va 5) (evX (af bb (va 3) (cI 1)) (p8 (va 3) (cI 1)) noV) (af bb (va 3) (cI 1))) nxE)) nxE)) nxE)) nxE)))) (ah (yt 1 (eNm 5) (ah (aN 2 (evX (biF lz (aa (va 2) (aa (af bb (af ixD (va 1) (va 5)) (cI 1)) ae))) noV (fNo (aa (va 2) (aa (af bb (af ixD (va 1) (va 5)) (cI 1)) ae))))) nxE)) (ah (rtN 2) nxE))))))
theorem asI (ns:List Int):bE (ns.map D.int)=some ns:=by
 induction ns with
 |nil=>rfl
 |cons n ns ih=>
  show(bE (ns.map D.int)).bind _=_;rw[ih];rfl
theorem Av (h:ns≠[]):lz [scD ns]=some (.int (mxZ ns)):=by
 show(bE (ns.map D.int)).bind _=_;rw[asI,Option.bind_some,if_neg (emp h)]
theorem len_sc' (l:List Int):aS [scD l]=some (.int (l.length:Int)):=FX l
theorem vH {α:Type} (l:List α):decide ((0:Int)<(l.length:Int))=!l.isEmpty:=by
 cases l with
 |nil=>rfl
 |cons a l=>exact decide_eq_true (by rw[length_cons];omega)
def sCn (f:List D->Option Sl):Prop:=∀ (ls:Lts) (gs:List Gr),Good ls.length gs->ls.all okZ=true->f [lsD' ls,aV ls gs]=some (.deep,.int (cnL (ls.length:Int) (levs ls gs)).1)
abbrev sN (ls:Lts) (gs:List Gr) (z:Int×Int) (o4 o5:Option Sl):Ev:=[some (.sh,lsD' ls),some (.sh,aV ls gs),some (.deep,.int z.1),some (.deep,.int z.2),o4,o5,none]
theorem Aw (ls:Lts):aS [lsD' ls]=some (.int (ls.length:Int)):=by simp only[nw,show cA (lsD' ls)=some (ls.map ltD')from rfl,length_map]
theorem Ax (hg:ss g) (h:eJ U 0=some d):aa (mkF "Mill" g (aa (lsF (dpF ae)) ae)) (aa (va 0) ae) U=some [gX,d]:=by
 have e:g [.lst []]=some [(("passes":Str),D.tup [])]:=hg;have e2:mkF "Mill" g (aa (lsF (dpF ae)) ae) U=some gX:=by
  rw[zd];show wj "Mill" (g [.lst []])=_;rw[e];rfl
 rw[ai,e2,Option.bind_some,ai,aH,h];rfl
theorem Ly {mt} {lv g lo} (hm:mt "Wish"=some (k0,lv)) (hk:k0<=kk) (hv:FZ lv) (hg:ss g) (hl:uv lo):sCn (aO 2 7 (d9 mt kk g lo)):=λls gs G ok=>by
 obtain⟨b1,b2⟩:=gU (ls:=ls) trivial G.ne;have hfl:=G.len;have hle:=G.le;have ne:=qu (ls:=ls) trivial G.ne;have me:kU mt kk "levels" (aV ls gs) []=some (.deep,lvD (levs ls gs)):=by
  show((mt "Wish").bind λz=>if z.1<=kk/\("levels":Str) ∉ (["groups","level_letters","level_numbers"]:List Str)then z.2 [aV ls gs]else none)=_;rw[hm,Option.bind_some,if_pos ⟨hk,by decide⟩];exact hv ls gs (by omega)
 have hs:az 7 [lsD' ls,aV ls gs]=[some (.sh,lsD' ls),some (.sh,aV ls gs),none,none,none,none,none]:=rfl;refine aP rfl ?_;rw[hs];unfold d9;refine FC (d:=.non) ?_ (bw (s:=(.deep,.int 0)) (U':=[some (.sh,lsD' ls),some (.sh,aV ls gs),none,none,none,none,none]) (ax rfl rfl) (bw (s:=(.deep,.int (ls.length:Int))) (U':=[some (.sh,lsD' ls),some (.sh,aV ls gs),some (.deep,.int 0),none,none,none,none]) (ax ?_ rfl) ?_))
 ·rw[cK,Ax hg (d:=lsD' ls) rfl,Option.bind_some,hl ls hle ok];rfl
 ·show biF aS (aa (va 0) ae) (some (lsD' ls)::_)=_;rw[fz,ai,aH,ao,Option.bind_some,aq,Option.bind_some,Option.bind_some,Aw]
 ·refine uh (xs:=levs ls gs) (mk:=scD) (λi U=>∃o4 o5,U=sN ls gs (cnL (ls.length:Int) ((levs ls gs).take i)) o4 o5) ?_ ⟨none,none,rfl⟩ ?_ ?_
  ·show(meF (va 1) ae mt kk "levels" [some (lsD' ls),some (aV ls gs),_,_,_,_,_]).bind cA=_;rw[IC];show(jj (kU mt kk "levels" (aV ls gs) [])).bind cA=_;rw[me];rfl
  ·rintro i l U hx ⟨o4,o5,rfl⟩;have hin:=ne l (mem_of_getElem? hx);have hll:l.length<=24:=by have:=ka hx;omega
   have st:cnL (ls.length:Int) ((levs ls gs).take (i+1))=cnS (cnL (ls.length:Int) ((levs ls gs).take i)) l:=by
    unfold cnL;rw[List.take_add_one,hx,List.foldl_append];rfl
   rw[st];generalize cnL (ls.length:Int) ((levs ls gs).take i)=z;have c1:aw [6] (jX noV (va 4)) (gNm 6) (au (af ltD (va 6) (va 3))) (va 6) [some (lsD' ls),some (aV ls gs),some (.int z.1),some (.int z.2),some (scD l),o5.map (·.2),none]=some ((lss z.2 l).map D.int):=by
    refine iM (xs:=l) (mk:=D.int) (out:=D.int) (p:=λa=>decide (a<z.2)) rfl (λa _=>?_) (lt_big (by omega));simp only[bZ,bg,bv,eB,set_cons_succ,set_cons_zero,Option.bind_some,dN,bj,aH,ao,ar,E8,gO];split<;>rfl
   have ln:∀ (U:Vv),eJ U 5=some (scD (lss z.2 l))->au (af gtD (biF aS (aa (va 5) ae)) (cI 0)) U=some (!(lss z.2 l).isEmpty):=λU h=>by
    simp only[dN,bj,fz,ai,aq,aH,h,Option.bind_some,len_sc',fR,uc,gO,vH]
   show∃U',ah (aN 5 _) _ (sN ls gs z (some (.sh,scD l)) o5)=some (.nx U')/\_;refine jw (s:=(.deep,scD (lss z.2 l))) (U':=sN ls gs z (some (.sh,scD l)) o5) ?_ ?_
   ·exact evX_lfs (d:=scD (lss z.2 l)) (by simp only[sN,ju,aB,map_some,Option.map_none,dF,c1];rfl) rfl (by simp only[sN,ju,aB,map_some,Option.map_none,c1]) (jx _)
   ·show∃U',ah (ifS _ _ _) _ (sN ls gs z (some (.sh,scD l)) (some (.deep,scD (lss z.2 l))))=some (.nx U')/\_;have tail:∀n:Int,n=(cnS z l).1->∃U',ah (aN 3 (evX (biF lz (aa (ifF (au (af gtD (biF aS (aa (va 5) ae)) (cI 0))) (va 5) (va 4)) ae)) noV (fNo (aa (ifF (au (af gtD (biF aS (aa (va 5) ae)) (cI 0))) (va 5) (va 4)) ae)))) nxE (sN ls gs (n,z.2) (some (.sh,scD l)) (some (.deep,scD (lss z.2 l))))=some (.nx U')/\∃o4 o5,U'=sN ls gs (cnS z l) o4 o5:=by
     rintro n rfl;refine jw (s:=(.deep,.int (cnS z l).2)) (U':=sN ls gs ((cnS z l).1,z.2) (some (.sh,scD l)) (some (.deep,scD (lss z.2 l)))) (ax ?_ rfl) (eD ⟨some (.sh,scD l),some (.deep,scD (lss z.2 l)),rfl⟩);rw[fz,ai,zg,ln _ rfl];unfold cnS;by_cases h:lss z.2 l=[]
     ·rw[if_pos (by rw[h];rfl),h];show lz [scD l]=_;exact Av hin
     ·rw[if_neg (emp h),show(lss z.2 l).isEmpty=false by cases q:(lss z.2 l).isEmpty with|false=>rfl|true=>exact absurd q (emp h)];show lz [scD (lss z.2 l)]=_;exact Av h
    by_cases h:lss z.2 l=[]
    ·refine Dv ?_ (tail z.1 (by unfold cnS;rw[if_pos (by rw[h];rfl)]));rw[ln _ rfl,h];rfl
    ·refine nC (b:=true) ?_ ⟨sN ls gs (z.1+1,z.2) (some (.sh,scD l)) (some (.deep,scD (lss z.2 l))),bw (s:=(.deep,.int (z.1+1))) (U':=sN ls gs z (some (.sh,scD l)) (some (.deep,scD (lss z.2 l)))) (ax ?_ rfl) rfl,tail (z.1+1) (by unfold cnS;rw[if_neg (emp h)])⟩
     ·rw[ln _ rfl];cases q:(lss z.2 l).isEmpty with
      |false=>rfl
      |true=>exact absurd q (emp h)
     ·show(af bb (va 2) (cI 1)) [_,_,some (.int z.1),_,_,_,_]=_;simp only[bj,aH,ao,ar,fR,Option.bind_some,jq]
  ·rintro U ⟨o4,o5,rfl⟩;rw[List.take_length];rfl
def zCn (z:List D->Option Str):Prop:=∀ (qs:Lts) (d:D),qs.length<=24->z [lsD' qs,d]=if qs.all okZ=true then none else some ("BadLetters":Str)
theorem Jz (hg:ss g) (hz:uw z):zCn (rX 2 7 (cz g z)):=λqs d h24=>by
 show cz g z [some (.sh,lsD' qs),some (.sh,d),none,none,none,none,none]=_;unfold cz;show(aa (mkF "Mill" g (aa (lsF (dpF ae)) ae)) (aa (va 0) ae) [some (lsD' qs),some d,none,none,none,none,none]).bind z=_;rw[Ax hg (d:=lsD' qs) rfl,Option.bind_some];exact hz qs h24
end K16
namespace K16
open PySem PySem.Spec PyProof.Rows L2
def gD (P:Pr):Wd:=(P.map λp=>Sum.inl p.1,P.map λp=>D.int p.2)
theorem JA (h:P.length<=k):WOk k (gD P):=⟨by unfold gD;rw[length_map,length_map],by unfold gD;rw[length_map];exact h,eA λd hd=>by obtain⟨p,_,rfl⟩:=List.mem_map.mp hd;rfl⟩
theorem Ga (h:a ∉ P.map (·.1)):pu n (gD P) a=gD (P++[(a,n)]):=by
 have hk:¬qa (P.map λp=>(Sum.inl p.1:Key)) (.inl a)=true:=λz=>by
  obtain⟨p,hp,e⟩:=List.mem_map.mp (has_mem.mp z);cases e;exact h (List.mem_map.mpr ⟨p,hp,rfl⟩)
 show((gJ (P.map λp=>(Sum.inl p.1:Key)) (.inl a),gK (P.map λp=>(Sum.inl p.1:Key)) (P.map λp=>D.int p.2) (.inl a) (.int n)):Wd)=(_,_);unfold gJ gK;rw[if_neg hk,if_neg hk,List.map_append,List.map_append];rfl
theorem Ay:∀ {P:Pr} {p:Int×Int},(P.map (·.1)).Nodup->p∈P->ixD (wD' (gD P)) (.int p.1)=some (.int p.2)
 |[],p,_,h=>by cases h
 |q::P,p,nd,h=>by
  show(if(Sum.inl q.1:Key)=.inl p.1 then some (D.int q.2)else sZ (P.map λp=>(Sum.inl p.1:Key)) (P.map λp=>D.int p.2) (.inl p.1))=_;rw[List.map_cons,List.nodup_cons]at nd;rcases mem_cons.mp h with rfl|h
  ·rw[if_pos rfl]
  ·rw[if_neg λz=>nd.1 (by rw[Sum.inl.inj z];exact List.mem_map.mpr ⟨p,h,rfl⟩)];exact Ay nd.2 h
theorem vI (P:Pr):(gD P).1.map ly=P.map λp=>D.int p.1:=by
 show(P.map λp=>(Sum.inl p.1:Key)).map ly=_;rw[List.map_map];rfl
abbrev sD (d:D) (P:Pr) (v:Int) (o4 o5 o6:Option Sl):Ev:=[some (.sh,d),some (.deep,wD' (gD P)),some (.deep,.int 0),some (.deep,.int v),o4,o5,o6]
theorem DA {cd:Int->Int} (h:(la=.non/\∀a,cd a=0)\/∃e:Int,la=.int e/\∀a,cd a=if e<a then v else v+1) (hl:P.length+l.length<=24) (nd:(P.map (·.1)++l).Nodup):
  ∃U',ah (frF (jX noV (va 4)) (eNm 5) (ah (ifS (au (af (Bh false) (va 6) cN)) (ah (gN 1 (va 5) (evX (cI 0) noV noV) (cI 0)) nxE) (ah (ifS (au (af gtD (va 5) (va 6))) (ah (gN 1 (va 5) (evX (va 3) noV noV) (va 3)) nxE) (ah (gN 1 (va 5) (evX (af bb (va 3) (cI 1)) (p8 (va 3) (cI 1)) noV) (af bb (va 3) (cI 1))) nxE)) nxE)) nxE)) nxE
   (sD d P v (some (.sh,scD l)) o5 (some (.deep,la)))=some (.nx U')/\∃v o4 o5 o6,U'=sD d (P++l.map λa=>(a,cd a)) v o4 o5 o6:=by
 refine vx (xs:=l) (mk:=D.int) (λj U=>∃o5,U=sD d (P++(l.take j).map λa=>(a,cd a)) v (some (.sh,scD l)) o5 (some (.deep,la))) rfl ⟨o5,by rw[List.take_zero,List.map_nil,List.append_nil]⟩ ?_ ?_
 ·rintro j a U ha ⟨o5,rfl⟩;have hj:j<l.length:=(List.getElem?_eq_some_iff.mp ha).1;have tk:l.take (j+1)=l.take j++[a]:=by rw[List.take_add_one,ha];rfl
  have nx:P++(l.take (j+1)).map (λa=>(a,cd a))=(P++(l.take j).map λa=>(a,cd a))++[(a,cd a)]:=by rw[tk,List.map_append,List.append_assoc];rfl
  have na:a ∉ (P++(l.take j).map λa=>(a,cd a)).map (·.1):=λz=>by
   have e:(P++(l.take j).map λa=>(a,cd a)).map (·.1)=P.map (·.1)++l.take j:=by
    rw[List.map_append,List.map_map];congr 1;exact(List.map_congr_left λ_ _=>rfl).trans (List.map_id _)
   rw[e]at z;have q:(P.map (·.1)++l.take (j+1)).Nodup:=nd.sublist (List.Sublist.append_left (List.take_sublist _ _) _);rw[tk,<-List.append_assoc]at q;exact(List.nodup_append.mp q).2.2 a z a (mem_singleton.mpr rfl) rfl
  have ln:(P++(l.take j).map λa=>(a,cd a)).length<=24:=by rw[length_append,length_map,List.length_take];omega
  rw[nx];generalize P++(l.take j).map (λa=>(a,cd a))=P' at na ln;show∃U',ah (ifS _ _ _) nxE (sD d P' v (some (.sh,scD l)) (some (.sh,.int a)) (some (.deep,la)))=some (.nx U')/\_;have fin:∀ {k:Vv->Option D} {R L Sp},k (vw (sD d P' v (some (.sh,scD l)) (some (.sh,.int a)) (some (.deep,la))))=some (.int a)->R (vw (sD d P' v (some (.sh,scD l)) (some (.sh,.int a)) (some (.deep,la))))=some (.int (cd a))->ah (gN 1 k (evX R L Sp) R) nxE (sD d P' v (some (.sh,scD l)) (some (.sh,.int a)) (some (.deep,la)))=some (.nx (sD d (P'++[(a,cd a)]) v (some (.sh,scD l)) (some (.sh,.int a)) (some (.deep,la)))):=λhk hR=>by
   refine(av (vD (w:=gD P') (JA ln) (by decide) rfl hk hR)).trans ?_;rw[Ga na];rfl
  rcases h with⟨rfl,h⟩|⟨e,rfl,h⟩
  ·exact nC (b:=true) rfl ⟨_,fin rfl (by rw[h];rfl),eD ⟨_,rfl⟩⟩
  ·refine nC (b:=false) rfl ⟨sD d (P'++[(a,cd a)]) v (some (.sh,scD l)) (some (.sh,.int a)) (some (.deep,.int e)),?_,eD ⟨_,rfl⟩⟩;have cg:au (af gtD (va 5) (va 6)) (vw (sD d P' v (some (.sh,scD l)) (some (.sh,.int a)) (some (.deep,.int e))))=some (decide (e<a)):=by
    simp only[sD,ju,aB,map_some,dN,bj,aH,ao,ar,Option.bind_some,uc,gO]
   by_cases q:e<a
   ·rw[decide_eq_true q]at cg;exact(av ((nt cg).trans (fin rfl (by rw[h,if_pos q];rfl)))).trans rfl
   ·rw[decide_eq_false q]at cg;refine(av ((iI cg).trans (fin rfl ?_))).trans rfl;rw[h,if_neg q];simp only[sD,ju,aB,map_some,bj,aH,ao,ar,fR,Option.bind_some,jq]
 ·rintro U ⟨o5,rfl⟩;rw[List.take_length];exact eD ⟨_,_,_,_,rfl⟩
theorem Gc {w:Wd} {β:Type} {xs:List β} {mk} (I:Nat->Ev->Prop) (hi:wm U i=some w) (hx:w.1.map ly=xs.map mk) (h0:I 0 (frzS [i] U)) (hs:∀ (j:Nat) (x:β) (U:Ev),xs[j]?=some x->I j U->∃U',(tg (mk x) U).bind F=some (.nx U')/\I (j+1) U') (k:∀U',I xs.length U'->G U'=out):ah (yt i tg F) G U=out:=by
 have hs':∀ (j:Nat) (d:D) (U:Ev),(xs.map mk)[j]?=some d->I j U->∃U',(tg d U).bind F=some (.nx U')/\I (j+1) U':=λj d U hd hj=>by
  rw[getElem?_map]at hd;cases hx:xs[j]? with
  |none=>rw[hx]at hd;cases hd
  |some x=>rw[hx]at hd;cases hd;exact hs j x U hx hj
 obtain⟨U',e,q⟩:=fw (step:=lu tg F) (xs.map mk) I _ h0 hs';rw[length_map]at q;refine(av ?_).trans (k _ q);unfold yt;rw[hi,Option.bind_some,hx];exact e
def sDu (f:List D->Option Sl):Prop:=∀lv:List (List Int),lv.flatten.length<=24->lv.flatten.Nodup->f [lvD lv]=some (.deep,.int (duN (duL lv)))
theorem Lz {mt}:sDu (aO 1 7 (i8 mt kk)):=λlv h24 nd=>by
 have hs:az 7 [lvD lv]=[some (.sh,lvD lv),none,none,none,none,none,none]:=rfl;refine aP rfl ?_;rw[hs];unfold i8;refine bw (s:=(.deep,wD' (gD []))) (U':=[some (.sh,lvD lv),none,none,none,none,none,none]) rfl (bw (s:=(.deep,.int 0)) (U':=[some (.sh,lvD lv),some (.deep,wD' (gD [])),none,none,none,none,none]) (ax rfl rfl) (bw (s:=(.deep,.int 0)) (U':=[some (.sh,lvD lv),some (.deep,wD' (gD [])),some (.deep,.int 0),none,none,none,none]) (ax rfl rfl) ?_));refine uh (xs:=lv) (mk:=scD) (λi U=>∃v o4 o5 o6,U=sD (lvD lv) (duL (lv.take i)) v o4 o5 o6) rfl ⟨0,none,none,none,rfl⟩ ?_ ?_
 ·rintro i l U hx ⟨v,o4,o5,o6,rfl⟩;have tf:=ka hx;have st:duL (lv.take (i+1))=duS (duL (lv.take i)) l:=by
   unfold duL;rw[List.take_add_one,hx,List.foldl_append];rfl
  have ks:=qz (lv.take i) [];rw[List.map_nil,List.nil_append]at ks;have ks:(duL (lv.take i)).map (·.1)=(lv.take i).flatten:=ks;have lp:(duL (lv.take i)).length=(lv.take i).flatten.length:=by rw[<-ks,length_map]
  have nd2:((duL (lv.take i)).map (·.1)++l).Nodup:=by
   rw[ks];have e:(lv.take (i+1)).flatten=(lv.take i).flatten++l:=by rw[List.take_add_one,hx,List.flatten_append];simp
   rw[<-e];refine nd.sublist ?_;conv=>rhs;rw[<-List.take_append_drop (i+1) lv,List.flatten_append]
   exact List.sublist_append_left _ _
  rw[st];generalize duL (lv.take i)=P at ks lp nd2;have hl:P.length+l.length<=24:=by omega
  have lg:∀U:Vv,eJ U 1=some (wD' (gD P))->au (af gtD (biF aS (aa (va 1) ae)) (cI 0)) U=some (!P.isEmpty):=λU h=>by
   have e:aS [wD' (gD P)]=some (.int (P.length:Int)):=by
    show some (D.int ((P.map λp=>(Sum.inl p.1:Key)).length:Int))=_;rw[length_map]
   simp only[dN,bj,fz,ai,aq,aH,h,Option.bind_some,e,fR,uc,gO,vH]
  rw[show eNm 4 (scD l) (sD (lvD lv) P v o4 o5 o6)=some (sD (lvD lv) P v (some (.sh,scD l)) o5 o6)from rfl,Option.bind_some];refine jw (s:=(.deep,.non)) (U':=sD (lvD lv) P v (some (.sh,scD l)) o5 o6) (ax rfl rfl) ?_;show∃U',ah (ifS _ _ _) _ (sD (lvD lv) P v (some (.sh,scD l)) o5 (some (.deep,.non)))=some (.nx U')/\_;by_cases hP:P=[]
  ·refine Dv ?_ ?_
   ·rw[lg _ rfl,hP];rfl
   ·exact DA (P:=P) (cd:=cdA P) (.inl ⟨rfl,λa=>by unfold cdA;rw[if_pos (by rw[hP];rfl)]⟩) hl nd2
  ·have ie:P.isEmpty=false:=by cases q:P.isEmpty with|false=>rfl|true=>exact absurd q (emp hP)
   refine nC (b:=true) (by rw[lg _ rfl,ie];rfl) ⟨sD (lvD lv) P (mst P) (some (.sh,scD l)) o5 (some (.deep,.int (lsx P))),bw (s:=(.deep,.int (mst P))) (U':=sD (lvD lv) P v (some (.sh,scD l)) o5 (some (.deep,.non))) (ax ?_ rfl) (bw (s:=(.deep,.int (lsx P))) (U':=sD (lvD lv) P (mst P) (some (.sh,scD l)) o5 (some (.deep,.non))) (ax ?_ rfl) rfl),DA (P:=P) (cd:=cdA P) (.inr ⟨lsx P,rfl,λa=>by unfold cdA;rw[if_neg (emp hP)]⟩) hl nd2⟩
   ·show(bE (P.map λp=>D.int p.2)).bind _=_;rw[show(P.map λp=>D.int p.2)=(P.map (·.2)).map D.int by rw[List.map_map];rfl,asI,Option.bind_some,if_neg (emp (by simpa using hP))];rfl
   ·have c1:aw [5] (λ_=>some ((gD P).1.map ly)) (gNm 5) (au (af (bi false) (af ixD (va 1) (va 5)) (va 3))) (va 5) [some (lvD lv),some (wD' (gD P)),some (.int 0),some (.int (mst P)),some (scD l),o5.map (·.2),some .non]=some ((P.filter λp=>decide (p.2=mst P)).map λp=>D.int p.1):=by
     refine iM (xs:=P) (mk:=λp=>D.int p.1) (out:=λp=>D.int p.1) (p:=λp=>decide (p.2=mst P)) (by rw[vI]) (λp hp=>?_) (lt_big (by omega));have at1:=Ay (List.nodup_append.mp nd2).1 hp;simp only[bZ,bg,bv,eB,set_cons_succ,set_cons_zero,Option.bind_some,dN,bj,aH,ao,ar,at1,pv,gO,Bool.false_eq_true,if_false];split<;>rfl
    have c2:oX 1 [5] (gNm 5) (au (af (bi false) (af ixD (va 1) (va 5)) (va 3))) (va 5) [some (lvD lv),some (wD' (gD P)),some (.int 0),some (.int (mst P)),some (scD l),o5.map (·.2),some .non]=some ((P.filter λp=>decide (p.2=mst P)).map (·.1)):=by
     show(aw [5] (λ_=>some ((gD P).1.map ly)) _ _ _ _).bind bE=_;rw[c1,Option.bind_some,show((P.filter λp=>decide (p.2=mst P)).map λp=>D.int p.1)=((P.filter λp=>decide (p.2=mst P)).map (·.1)).map D.int by rw[List.map_map];rfl,asI]
    show((((oX 1 [5] (gNm 5) (au (af (bi false) (af ixD (va 1) (va 5)) (va 3))) (va 5) [some (lvD lv),some (wD' (gD P)),some (.int 0),some (.int (mst P)),some (scD l),o5.map (·.2),some .non]).map λns=>ns.map D.int).map D.lst).bind λd=>(some []).bind λds=>some (d::ds)).bind lz=_;rw[c2];exact Av (Ar hP)
 ·rintro U ⟨v,o4,o5,o6,rfl⟩;rw[List.take_length];have ks:=qz lv [];rw[List.map_nil,List.nil_append]at ks;have ks:(duL lv).map (·.1)=lv.flatten:=ks;rw[<-ks]at nd;refine Gc (w:=gD (duL lv)) (xs:=duL lv) (mk:=λp=>D.int p.1) (λj U=>∃o5,U=[some (.sh,lvD lv),some (.sh,wD' (gD (duL lv))),some (.deep,.int (((duL lv).take j).foldl ndS 0)),some (.deep,.int v),o4,o5,o6]) rfl (vI _) ⟨o5,rfl⟩ ?_ ?_
  ·rintro j p U hp ⟨o5,rfl⟩;have at1:=Ay nd (mem_of_getElem? hp);have tk:((duL lv).take (j+1)).foldl ndS 0=ndS (((duL lv).take j).foldl ndS 0) p:=by rw[List.take_add_one,hp,List.foldl_append];rfl
   rw[tk];generalize ((duL lv).take j).foldl ndS 0=n;show∃U',ah (aN 2 _) nxE [some (.sh,lvD lv),some (.sh,wD' (gD (duL lv))),some (.deep,.int n),some (.deep,.int v),o4,some (.sh,.int p.1),o6]=some (.nx U')/\_;refine jw (s:=(.deep,.int (ndS n p))) (U':=[some (.sh,lvD lv),some (.sh,wD' (gD (duL lv))),some (.deep,.int n),some (.deep,.int v),o4,some (.sh,.int p.1),o6]) (ax ?_ rfl) (eD ⟨_,rfl⟩);simp only[ju,aB,map_some,fz,ai,aq,bj,aH,ao,ar,fR,Option.bind_some,at1,jq,Fb];rfl
  ·rintro U ⟨o5,rfl⟩;rw[List.take_length,Jy (P:=duL lv) (Au lv [] λ_ h=>(nomatch h))];rfl
end K16
namespace K16
open PySem PySem.Spec PyProof.Rows L2
def cQ (aJ:List D->Option Sl) (bp:List D->Option Str) (tb:Str->Str->Option Bool):Ev->Option Out:=(ah (aN 2 (evX (lsF (dpF ae)) (dpF ae) (fLs ae))) (ah (wy (ah (mQ (clF aJ (aa (va 0) (aa (va 1) ae)))) nxE) (clZ (aa (va 0) (aa (va 1) ae)) bp) (hdC (λx=>tb x "MillError") (λx=>hdX 3 (λa=>(ah (aN 2 (fN (fLs (aa (lfE (isN (tb x "BadLetters") 3 a)) (aa (lfE (isN (tb x "ValueError") 3 a)) (aa (lfE (isN ((tb x "BadCount").bind λb=>(((tb x "BadWish").bind λb=>((some false)).bind λd=>some (b||d))).bind λd=>some (b||d)) 3 a)) ae)))))) nxE))) (λ_ _=>none))) (ah (cw (evX (af (bi false) (va 2) (lsF (dpF (aa (cB true) (aa (cB true) (aa (cB false) ae)))))) noV noV)) nxE)))
def Az (aJ:List D->Option Sl) (bQ:List D->Option Sl) (a9:List D->Option Sl) (kt:List D->Option (List (Str×D))) (bu:List D->Option Sl) (bI:List D->Option Sl) (cE:List D->Option Sl) (bH:List D->Option Sl) (bd:List D->Option Sl) (bG:List D->Option Sl):Ev->Option Out:=(ah (aN 1 (evX (clF bG (aa (va 0) (aa (cI 60) ae))) noV (fCl bG (aa (va 0) (aa (cI 60) ae))))) (ah (aN 2 (evX (lsF (aw [14] (jX noV (clF bd (aa (va 1) ae))) (gNm 14) tQ (tpF (aa (af ixD (va 14) (cI 0)) (aa (cI 0) ae))))) (aw [14] (jX noV (clF bd (aa (va 1) ae))) (gNm 14) tQ (tpF (aa (af ixD (va 14) (cI 0)) (aa (cI 0) ae)))) (fCo [14] (jX noV (clF bd (aa (va 1) ae))) (gNm 14) tQ (frX (tpF (aa (af ixD (va 14) (cI 0)) (aa (cI 0) ae))) noV (fTp (aa (frX (af ixD (va 14) (cI 0)) noV noV) (aa (frX (cI 0) noV noV) ae))))))) (ah (aN 3 (evX (clF bH (aa (va 1) (aa (va 2) ae))) noV (fCl bH (aa (va 1) (aa (va 2) ae))))) (ah (aN 4 (evX (liF (aa (va 2) ae)) (l1F (aa (va 2) ae)) (fNo (aa (va 2) ae)))) (ah (aN 5 (evX (mkF "Wish" kt (aa (va 4) (aa (clF a9 (aa (va 3) ae)) ae))) noV (fNo (aa (va 4) (aa (clF a9 (aa (va 3) ae)) ae))))) (ah (aN 6 (evX (clF aJ (aa (va 4) (aa (va 5) ae))) noV (fCl aJ (aa (va 4) (aa (va 5) ae))))) (ah (aN 7 (evX (clF cE (aa (clF bI (aa (va 2) (aa (va 3) ae))) ae)) noV (fCl cE (aa (clF bI (aa (va 2) (aa (va 3) ae))) ae)))) (ah (ifS (orQ (dY (trF (clF bu (aa (va 6) ae)))) (orQ (au (af (bi true) (va 6) (va 7))) (au (af (bi true) (va 4) (va 2))))) (ah (cw (evX (cB false) noV noV)) nxE) nxE) (ah (aN 8 (evX (biF aS (aa (va 2) ae)) noV (fNo (aa (va 2) ae)))) (ah (ifS (au (af (bi false) (va 8) (cI 0))) (ah (cw (evX (cB true) noV noV)) nxE) nxE) (ah (aN 9 (evX (af aM (af ixD (va 1) (cI 55)) (va 8)) noV noV)) (ah (aN 10 (evX (af ixD (va 1) (cI 56)) noV noV)) (ah (aN 11 (evX (lsF (dpF (aa (tpF (aa (cI 1) (aa (af bb (cI 1) (af aM (va 10) (cI 6))) ae))) (aa (tpF (aa (cI 0) (aa (cI 0) ae))) (aa (tpF (aa (cI 10) (aa (cI 0) ae))) (aa (tpF (aa (cI 1) (aa (ngF (cI 1)) ae))) (aa (tpF (aa (af lm (ngF (cI 1)) (va 10)) (aa (cI 0) ae))) (aa (tpF (aa (cI 1) (aa (af cu (cI 10) (cI 40)) ae))) ae)))))))) (dpF (aa (tpF (aa (cI 1) (aa (af bb (cI 1) (af aM (va 10) (cI 6))) ae))) (aa (tpF (aa (cI 0) (aa (cI 0) ae))) (aa (tpF (aa (cI 10) (aa (cI 0) ae))) (aa (tpF (aa (cI 1) (aa (ngF (cI 1)) ae))) (aa (tpF (aa (af lm (ngF (cI 1)) (va 10)) (aa (cI 0) ae))) (aa (tpF (aa (cI 1) (aa (af cu (cI 10) (cI 40)) ae))) ae))))))) (fLs (aa (frX (tpF (aa (cI 1) (aa (af bb (cI 1) (af aM (va 10) (cI 6))) ae))) noV (fTp (aa (frX (cI 1) noV noV) (aa (frX (af bb (cI 1) (af aM (va 10) (cI 6))) (p8 (cI 1) (af aM (va 10) (cI 6))) noV) ae)))) (aa (frX (tpF (aa (cI 0) (aa (cI 0) ae))) noV (fTp (aa (frX (cI 0) noV noV) (aa (frX (cI 0) noV noV) ae)))) (aa (frX (tpF (aa (cI 10) (aa (cI 0) ae))) noV (fTp (aa (frX (cI 10) noV noV) (aa (frX (cI 0) noV noV) ae)))) (aa (frX (tpF (aa (cI 1) (aa (ngF (cI 1)) ae))) noV (fTp (aa (frX (cI 1) noV noV) (aa (frX (ngF (cI 1)) noV noV) ae)))) (aa (frX (tpF (aa (af lm (ngF (cI 1)) (va 10)) (aa (cI 0) ae))) noV (fTp (aa (frX (af lm (ngF (cI 1)) (va 10)) noV noV) (aa (frX (cI 0) noV noV) ae)))) (aa (frX (tpF (aa (cI 1) (aa (af cu (cI 10) (cI 40)) ae))) noV (fTp (aa (frX (cI 1) noV noV) (aa (frX (af cu (cI 10) (cI 40)) noV noV) ae)))) ae))))))))) (ah (aN 12 (evX (liF (aa (va 2) ae)) (l1F (aa (va 2) ae)) (fNo (aa (va 2) ae)))) (ah (gN 12 (va 9) (evX (af ixD (va 11) (af aM (af ixD (va 1) (cI 57)) (biF aS (aa (va 11) ae)))) noV noV) (af ixD (va 11) (af aM (af ixD (va 1) (cI 57)) (biF aS (aa (va 11) ae))))) (ah (aN 13 (evX (mkF "Wish" kt (aa (liF (aa (va 12) ae)) (aa (clF a9 (aa (va 3) ae)) ae))) noV (fNo (aa (liF (aa (va 12) ae)) (aa (clF a9 (aa (va 3) ae)) ae))))) (ah (ifS (dY (trF (clF bQ (aa (va 12) (aa (va 13) ae))))) (ah (cw (evX (cB false) noV noV)) nxE) nxE) (ah (cw (evX (af (bi false) (clF aJ (aa (va 2) (aa (va 5) ae))) (va 6)) noV noV)) nxE))))))))))))))))))
def xn:List Str:=["BadMill","BadLetters","BadWish","BadCount"]
theorem evFr_eq (h:F (vw U)=some d):fN F U=some ((.deep,d),U):=by unfold fN;rw[h];rfl
theorem uz (h:o=some b) (e:eJ U i=some (.adr a)):lfE (isN o i a) U=some (.bl b):=by
 subst h;show lfO (isF i a b U)=_;unfold isF;rw[e];simp only[if_true];rfl
def Gd (f:List D->Option Sl):Prop:=∀ (qs:Lts) (d:D),qs.length<=24->qs.all okZ=false->f [lsD' qs,d]=some (.deep,.bl true)
theorem JB (hz:zCn z):Gd (aO 2 4 (cQ cn z (tbX xn))):=λqs d h24 hb=>by
 have e:=hz qs d h24;rw[hb]at e;have e:z [lsD' qs,d]=some ("BadLetters":Str):=e;refine aP rfl ?_;show cQ cn z (tbX xn) [some (.sh,lsD' qs),some (.sh,d),none,none]=_;unfold cQ;refine bw (s:=(.deep,.lst [])) (U':=[some (.sh,lsD' qs),some (.sh,d),none,none]) (evX_lfs (d:=.lst []) (ds:=[]) (by simp) rfl (by simp) rfl) (Jd (Fx (x:=("BadLetters":Str)) (U':=[some (.sh,lsD' qs),some (.sh,d),some (.deep,.lst [.bl true,.bl true,.bl false]),none]) ?_ ?_) (dG (ax (d:=.bl true) rfl rfl)))
 ·show(aa (va 0) (aa (va 1) ae) [some (lsD' qs),some d,_,_]).bind z=_;simp only[ai,aq,aH,ao,EY,ar,Option.bind_some,e]
 ·rw[Fy (by kernel_rfl)];refine Fq λa=>⟨_,bw (evFr_eq (d:=.lst [.bl true,.bl true,.bl false]) ?_) rfl,rfl⟩;show fLs (aa _ (aa _ (aa _ ae))) _=_;rw[Dk,ai,uz (b:=true) (by kernel_rfl) rfl,Option.bind_some,ai,uz (b:=true) (by kernel_rfl) rfl,Option.bind_some,ai,uz (b:=false) (by kernel_rfl) rfl];rfl
theorem Ge (hP:0<P) (h0:0<=q) (h:q<6) (hf:0<=f%6/\f%6<6) (hp:0<=f):∃p:Int×Int,okZ p=false/\ixD (.lst [.tup [.int 1,.int (1+f%6)],.tup [.int 0,.int 0],.tup [.int 10,.int 0],.tup [.int 1,.int (-1)],.tup [.int (-1-f),.int 0],.tup [.int 1,.int P]]) (.int q)=some (ltD' p):=by
 rcases(show q=0\/q=1\/q=2\/q=3\/q=4\/q=5 by omega)with rfl|rfl|rfl|rfl|rfl|rfl
 ·refine⟨(1,1+f%6),?_,rfl⟩;unfold okZ;rw[decide_eq_false (show¬1+f%6<=0 by omega),Bool.and_false,Bool.and_false]
 ·exact⟨(0,0),by decide,rfl⟩
 ·exact⟨(10,0),by decide,rfl⟩
 ·exact⟨(1,-1),by decide,rfl⟩
 ·refine⟨(-1-f,0),?_,rfl⟩;unfold okZ;rw[decide_eq_false (show¬1<= -1-f by omega)];rfl
 ·refine⟨(1,P),?_,rfl⟩;unfold okZ;rw[decide_eq_false (show¬P<=0 by omega),Bool.and_false,Bool.and_false]
theorem vJ {β:Type} {f}:∀ {xs:List β},(∀x∈xs,okE (f x)=true/\dep (f x)<=n)->okL (xs.map f)=true/\cG (xs.map f)<=n
 |[],_=>⟨rfl,Nat.zero_le _⟩
 |x::xs,h=>by
  obtain⟨a,b⟩:=h x mem_cons_self;obtain⟨c,d⟩:=vJ (xs:=xs) λy hy=>h y (mem_cons_of_mem _ hy);exact⟨by show(okE (f x)&&okL (xs.map f))=true;rw[a,c];rfl,by show max (dep (f x)) (cG (xs.map f))<=n;omega⟩
theorem JC (ls:Lts):bi true (lsD' ls) (lsD' ls)=some (.bl false):=by
 obtain⟨a,b⟩:=vJ (f:=ltD') (n:=2) (xs:=ls) λp _=>⟨rfl,show(1:Nat)<=2 from Nat.le_succ 1⟩;exact vu true a (Nat.le_trans (Nat.succ_le_succ b) (by decide)) rfl rfl
theorem AA (G:Good zs.length gs):(∀a∈(levs zs gs).flatten,a<(zs.length:Int))/\(levs zs gs).flatten.Nodup:=by
 have pm:=ke (ls:=zs) trivial gs;refine⟨λa ha=>?_,pm.nodup_iff.mpr ?_⟩
 ·obtain⟨n,hn,rfl⟩:=List.mem_map.mp (pm.mem_iff.mp ha);have:=List.mem_range.mp (G.pm.mem_iff.mp hn);omega
 ·have nd:(bR gs).Nodup:=G.pm.nodup_iff.mpr List.nodup_range;exact List.Pairwise.map _ (λa b (h:a≠b)=>by omega) nd
theorem AB (ls:Lts):lfL (ls.map ltD')=true:=eA λd hd=>by obtain⟨p,_,rfl⟩:=List.mem_map.mp hd;rfl
abbrev sV (ns cs:List Int) (zs:Lts) (gs:List Gr) (o6 o7 o8 o9 o10 o11 o12 o13:Option Sl):Ev:=[some (.sh,scD ns),some (.sh,scD cs),some (.sh,lsD' zs),some (.sh,gsD gs),some (.sh,lsD' zs),some (.sh,aV zs gs),o6,o7,o8,o9,o10,o11,o12,o13,none]
theorem Gg (a b c d e f:D):b9 (some [a,b,c,d,e,f])=some [a,b,c,d,e,f]:=dc (show 6<big by decide)
theorem JD {cn rf cop g wh lev du grp let_ pou} (hcn:sCn cn) (hrf:Gd rf) (hc:FU cop) (hg:Aj g) (hw:ut wh) (hv:FS lev) (hdu:sDu du) (hgr:F5 grp) (hle:F3 let_) (hpo:qq pou) (ns:List Int) (hn:ns.length<=63):
  aO 1 15 (Az cn rf cop g wh lev du grp let_ pou) [scD ns]=some (.deep,.bl true):=by
 have hs:az 15 [scD ns]=[some (.sh,scD ns),none,none,none,none,none,none,none,none,none,none,none,none,none,none]:=rfl
 obtain⟨cs,hcl,hpos,e0⟩:=hpo ns (by omega)
 obtain⟨ls,h24,hsz,e1⟩:=hle cs hcl
 have hzl:(ls.map λp=>(p.1,(0:Int))).length=ls.length:=length_map _
 have cm:aw [14] (jX noV (clF let_ (aa (va 1) ae))) (gNm 14) tQ (tpF (aa (af ixD (va 14) (cI 0)) (aa (cI 0) ae))) [some (scD ns),some (scD cs),none,none,none,none,none,none,none,none,none,none,none,none,none]=some (ls.map λp=>ltD' (p.1,0)):=by
  refine aU (xs:=ls) (mk:=ltD') (out:=λp=>ltD' (p.1,0)) ?_ (λp _=>?_) (lt_big (by omega))
  ·show(clF let_ (aa (va 1) ae) [some (scD ns),some (scD cs),none,none,none,none,none,none,none,none,none,none,none,none,none]).bind cA=_;simp only[cK,ai,aq,aH,ao,ar,Option.bind_some,e1,aR];rfl
  ·rfl
 rw[show(ls.map λp=>ltD' (p.1,0))=(ls.map λp=>(p.1,(0:Int))).map ltD' by rw[List.map_map];rfl]at cm
 have okz:(ls.map λp=>(p.1,(0:Int))).all okZ=true:=List.all_eq_true.mpr λq hq=>by
  obtain⟨p,hp,rfl⟩:=List.mem_map.mp hq;have:=hsz p hp;unfold okZ;rw[decide_eq_true this.1,decide_eq_true this.2];rfl
 have lt0:qp (ls.map λp=>(p.1,(0:Int))):=λq hq=>by
  obtain⟨p,hp,rfl⟩:=List.mem_map.mp hq;exact⟨Int.le_refl _,show(0:Int)<10 by decide⟩
 generalize ls.map (λp=>(p.1,(0:Int)))=zs at cm okz lt0 hzl
 have z24:zs.length<=24:=by omega
 obtain⟨gs,G,e2⟩:=hgr cs zs hcl z24
 obtain⟨c,hcs,e3⟩:=hv zs.length zs gs lt0 rfl G
 obtain⟨b1,b2⟩:=gU (ls:=zs) trivial G.ne
 have hfl:=G.len
 obtain⟨lw,nd⟩:=AA G
 have e4:=hc gs (by have:=gT G.ne;omega)
 have e5:=hg zs.length zs gs trivial rfl G
 have e6:=hcn zs gs G okz
 have e7:=hdu (levs zs gs) (by omega) nd
 rw[<-Jx (m:=(zs.length:Int)) (qu (ls:=zs) trivial G.ne) lw nd]at e7
 generalize (cnL (zs.length:Int) (levs zs gs)).1=n at e6 e7
 have e8:=hw n
 have li:∀qs:Lts,jh [lsD' qs]=some (qs.map ltD'):=λ_=>rfl
 refine aP rfl ?_
 rw[hs]
 unfold Az
 refine bw (ev_cl (d:=scD cs) (ds:=[scD ns,.int 60]) rfl e0 rfl) ?_
 refine bw (s:=(.deep,lsD' zs)) (U':=[some (.sh,scD ns),some (.deep,scD cs),none,none,none,none,none,none,none,none,none,none,none,none,none]) (evX_lfs (d:=lsD' zs) (ds:=zs.map ltD') (by
  show(aw _ _ _ _ _ [some (scD ns),some (scD cs),none,none,none,none,none,none,none,none,none,none,none,none,none]).map D.lst=_;rw[cm];rfl) rfl cm (AB _)) ?_
 refine bw (ev_cl (d:=gsD gs) (ds:=[scD cs,lsD' zs]) rfl e2 rfl) ?_
 refine bw (s:=(.deep,lsD' zs)) (U':=[some (.sh,scD ns),some (.deep,scD cs),some (.deep,lsD' zs),some (.deep,gsD gs),none,none,none,none,none,none,none,none,none,none,none]) (evX_lfs (d:=lsD' zs) (ds:=zs.map ltD') rfl rfl rfl (AB _)) ?_
 refine bw (s:=(.sh,aV zs gs)) (U':=[some (.sh,scD ns),some (.sh,scD cs),some (.sh,lsD' zs),some (.sh,gsD gs),some (.sh,lsD' zs),none,none,none,none,none,none,none,none,none,none]) (Al (d:=aV zs gs) ?_ rfl rfl Dj rfl rfl) ?_
 ·show mkF "Wish" g _ [some (scD ns),some (scD cs),some (lsD' zs),some (gsD gs),some (lsD' zs),none,none,none,none,none,none,none,none,none,none]=_;rw[zd];simp only[ai,cK,aq,aH,ao,ar,Option.bind_some,e4,aR,e5];rfl
 show ah (aN 6 _) _ (sV ns cs zs gs none none none none none none none none)=_;have ecn:∀ {o6 o7 o8 o9 o10 o11 o12 o13:Option D} (k:Nat),eJ [some (scD ns),some (scD cs),some (lsD' zs),some (gsD gs),some (lsD' zs),some (aV zs gs),o6,o7,o8,o9,o10,o11,o12,o13,none] k=some (lsD' zs)->clF cn (aa (va k) (aa (va 5) ae)) [some (scD ns),some (scD cs),some (lsD' zs),some (gsD gs),some (lsD' zs),some (aV zs gs),o6,o7,o8,o9,o10,o11,o12,o13,none]=some (.int n):=λk hk=>by
  simp only[cK,ai,aq,aH,hk,ao,ar,Option.bind_some,e6,aR]
 refine bw (s:=(.deep,.int n)) (U':=sV ns cs zs gs none none none none none none none none) (ax (ecn 4 rfl) rfl) ?_;refine bw (s:=(.deep,.int n)) (U':=sV ns cs zs gs (some (.deep,.int n)) none none none none none none none) (ax ?_ rfl) ?_
 ·show clF du (aa (clF lev (aa (va 2) (aa (va 3) ae))) ae) [some (scD ns),some (scD cs),some (lsD' zs),some (gsD gs),some (lsD' zs),some (aV zs gs),some (.int n),none,none,none,none,none,none,none,none]=_;simp only[cK,ai,aq,aH,ao,ar,Option.bind_some,e3,aR,e7]
 show ah (ifS _ _ _) _ (sV ns cs zs gs (some (.deep,.int n)) (some (.deep,.int n)) none none none none none none)=_;refine gh ?_ ?_
 ·simp only[sV,ju,aB,map_some,Option.map_none,vi,jZ,pi,dN,bj,cK,ai,aq,aH,ao,ar,Option.bind_some,e8,aR,iw,pv,JC,gO,decide_true,Bool.not_true,Bool.false_eq_true,if_false,if_true]
 refine bw (s:=(.deep,.int (zs.length:Int))) (U':=sV ns cs zs gs (some (.deep,.int n)) (some (.deep,.int n)) none none none none none none) (ax ?_ rfl) ?_
 ·show biF aS (aa (va 2) ae) [some (scD ns),some (scD cs),some (lsD' zs),some (gsD gs),some (lsD' zs),some (aV zs gs),some (.int n),some (.int n),none,none,none,none,none,none,none]=_;simp only[fz,ai,aq,aH,ao,ar,Option.bind_some,Aw]
 show ah (ifS _ _ _) _ (sV ns cs zs gs (some (.deep,.int n)) (some (.deep,.int n)) (some (.deep,.int (zs.length:Int))) none none none none none)=_;have c0:au (af (bi false) (va 8) (cI 0)) (vw (sV ns cs zs gs (some (.deep,.int n)) (some (.deep,.int n)) (some (.deep,.int (zs.length:Int))) none none none none none))=some (decide ((zs.length:Int)=0)):=by
  simp only[sV,ju,aB,map_some,Option.map_none,dN,bj,aH,fR,ao,ar,Option.bind_some,pv,gO,Bool.false_eq_true,if_false]
 by_cases h0:(zs.length:Int)=0
 ·rw[decide_eq_true h0]at c0;exact dM ((nt c0).trans (dG (ax (d:=.bl true) rfl rfl)))
 rw[decide_eq_false h0]at c0;refine gh c0 ?_;obtain⟨x,ex⟩:=iN (ns:=cs) (i:=55) (by decide) (by omega);obtain⟨f,ef⟩:=iN (ns:=cs) (i:=56) (by decide) (by omega);obtain⟨u,eu⟩:=iN (ns:=cs) (i:=57) (by decide) (by omega);have f0:0<=f:=hpos f (by
  have q:atI (cs.map D.int) 56=some (.int f):=ef;obtain⟨j,e1,e2⟩:=bind_some q;rw[getElem?_map]at e2;obtain⟨y,hy,e⟩:=Option.map_eq_some_iff.mp e2;cases e;exact mem_of_getElem? hy)
 obtain⟨P,P0,eP⟩:=p10 (j:=40) (by decide) (by decide);have m1:=md x (show(0:Int)<(zs.length:Int)by omega);have m6:=md f (show(0:Int)<6 by decide);have m7:=md u (show(0:Int)<6 by decide);obtain⟨p,bad,ep⟩:=Ge P0 m7.1 m7.2 m6 f0;refine bw (s:=(.deep,.int (x%(zs.length:Int)))) (U':=sV ns cs zs gs (some (.deep,.int n)) (some (.deep,.int n)) (some (.deep,.int (zs.length:Int))) none none none none none) (ax ?_ rfl) ?_
 ·simp only[sV,ju,aB,map_some,Option.map_none,bj,aH,fR,ao,ar,Option.bind_some,ex,iC _ _ (show(0:Int)<(zs.length:Int)by omega)]
 refine bw (s:=(.deep,.int f)) (U':=sV ns cs zs gs (some (.deep,.int n)) (some (.deep,.int n)) (some (.deep,.int (zs.length:Int))) (some (.deep,.int (x%(zs.length:Int)))) none none none none) (ax ?_ rfl) ?_
 ·show af ixD (va 1) (cI 56) [some (scD ns),some (scD cs),some (lsD' zs),some (gsD gs),some (lsD' zs),some (aV zs gs),some (.int n),some (.int n),some (.int (zs.length:Int)),some (.int (x%(zs.length:Int))),none,none,none,none,none]=_;simp only[bj,aH,fR,ao,ar,Option.bind_some,ef]
 have od:dpF (aa (tpF (aa (cI 1) (aa (af bb (cI 1) (af aM (va 10) (cI 6))) ae))) (aa (tpF (aa (cI 0) (aa (cI 0) ae))) (aa (tpF (aa (cI 10) (aa (cI 0) ae))) (aa (tpF (aa (cI 1) (aa (ngF (cI 1)) ae))) (aa (tpF (aa (af lm (ngF (cI 1)) (va 10)) (aa (cI 0) ae))) (aa (tpF (aa (cI 1) (aa (af cu (cI 10) (cI 40)) ae))) ae)))))) [some (scD ns),some (scD cs),some (lsD' zs),some (gsD gs),some (lsD' zs),some (aV zs gs),some (.int n),some (.int n),some (.int (zs.length:Int)),some (.int (x%(zs.length:Int))),some (.int f),none,none,none,none]=some [.tup [.int 1,.int (1+f%6)],.tup [.int 0,.int 0],.tup [.int 10,.int 0],.tup [.int 1,.int (-1)],.tup [.int (-1-f),.int 0],.tup [.int 1,.int P]]:=by
  simp only[iK,ai,aq,iJ,bj,IA,E9,aH,fR,ao,ar,Option.bind_some,jq,vj,iC _ 6 (show(0:Int)<6 by decide),eP,cY,Gg]
 refine bw (s:=(.deep,.lst [.tup [.int 1,.int (1+f%6)],.tup [.int 0,.int 0],.tup [.int 10,.int 0],.tup [.int 1,.int (-1)],.tup [.int (-1-f),.int 0],.tup [.int 1,.int P]])) (U':=sV ns cs zs gs (some (.deep,.int n)) (some (.deep,.int n)) (some (.deep,.int (zs.length:Int))) (some (.deep,.int (x%(zs.length:Int)))) (some (.deep,.int f)) none none none) (evX_lfs (d:=.lst [.tup [.int 1,.int (1+f%6)],.tup [.int 0,.int 0],.tup [.int 10,.int 0],.tup [.int 1,.int (-1)],.tup [.int (-1-f),.int 0],.tup [.int 1,.int P]]) (congrArg (Option.map D.lst) od) rfl od rfl) ?_;have eo:aS [.lst [.tup [.int 1,.int (1+f%6)],.tup [.int 0,.int 0],.tup [.int 10,.int 0],.tup [.int 1,.int (-1)],.tup [.int (-1-f),.int 0],.tup [.int 1,.int P]]]=some (.int 6):=rfl;generalize [D.tup [.int 1,.int (1+f%6)],.tup [.int 0,.int 0],.tup [.int 10,.int 0],.tup [.int 1,.int (-1)],.tup [.int (-1-f),.int 0],.tup [.int 1,.int P]]=od at ep eo;refine bw (s:=(.deep,lsD' zs)) (U':=sV ns cs zs gs (some (.deep,.int n)) (some (.deep,.int n)) (some (.deep,.int (zs.length:Int))) (some (.deep,.int (x%(zs.length:Int)))) (some (.deep,.int f)) (some (.deep,.lst od)) none none) (evX_lfs (d:=lsD' zs) (ds:=zs.map ltD') rfl rfl rfl (AB _)) ?_;have es:(zs.map ltD').set (x%(zs.length:Int)).toNat (ltD' p)=(zs.set (x%(zs.length:Int)).toNat p).map ltD':=by rw[List.map_set]
 have hq:(zs.set (x%(zs.length:Int)).toNat p).length=zs.length:=List.length_set;have hb:(zs.set (x%(zs.length:Int)).toNat p).all okZ=false:=by
  cases q:(zs.set (x%(zs.length:Int)).toNat p).all okZ with
  |false=>rfl
  |true=>
   have:=List.all_eq_true.mp q p (List.mem_set (show(x%(zs.length:Int)).toNat<zs.length by omega) p);rw[bad]at this;cases this
 refine Jd (U':=sV ns cs zs gs (some (.deep,.int n)) (some (.deep,.int n)) (some (.deep,.int (zs.length:Int))) (some (.deep,.int (x%(zs.length:Int)))) (some (.deep,.int f)) (some (.deep,.lst od)) (some (.deep,lsD' (zs.set (x%(zs.length:Int)).toNat p))) none) ?_ ?_
 ·refine(z8 (kZ (ds:=zs.map ltD') (k:=x%(zs.length:Int)) (d:=ltD' p) (U':=sV ns cs zs gs (some (.deep,.int n)) (some (.deep,.int n)) (some (.deep,.int (zs.length:Int))) (some (.deep,.int (x%(zs.length:Int)))) (some (.deep,.int f)) (some (.deep,.lst od)) (some (.deep,lsD' zs)) none) (ax ?_ rfl) rfl rfl m1.1 (by rw[length_map];exact m1.2))).trans ?_
  ·show af ixD (va 11) (af aM (af ixD (va 1) (cI 57)) (biF aS (aa (va 11) ae))) [some (scD ns),some (scD cs),some (lsD' zs),some (gsD gs),some (lsD' zs),some (aV zs gs),some (.int n),some (.int n),some (.int (zs.length:Int)),some (.int (x%(zs.length:Int))),some (.int f),some (.lst od),some (lsD' zs),none,none]=_;simp only[bj,fz,ai,aq,aH,fR,ao,ar,Option.bind_some,eu,eo,iC _ 6 (show(0:Int)<6 by decide),ep]
  ·rw[es];rfl
 generalize zs.set (x%(zs.length:Int)).toNat p=qs at hq hb;have e9:=hg zs.length qs gs trivial hq G;have e10:=hrf qs (aV qs gs) (by omega) hb;refine bw (s:=(.sh,aV qs gs)) (U':=sV ns cs zs gs (some (.sh,.int n)) (some (.sh,.int n)) (some (.sh,.int (zs.length:Int))) (some (.sh,.int (x%(zs.length:Int)))) (some (.sh,.int f)) (some (.sh,.lst od)) (some (.sh,lsD' qs)) none) (Al (d:=aV qs gs) ?_ rfl rfl Dj rfl rfl) ?_
 ·show mkF "Wish" g _ [some (scD ns),some (scD cs),some (lsD' zs),some (gsD gs),some (lsD' zs),some (aV zs gs),some (.int n),some (.int n),some (.int (zs.length:Int)),some (.int (x%(zs.length:Int))),some (.int f),some (.lst od),some (lsD' qs),none,none]=_;rw[zd];simp only[ai,cK,jp,aq,aH,ao,ar,Option.bind_some,li,map_some,e4,aR];show wj "Wish" (g [lsD' qs,gsD gs])=_;rw[e9];rfl
 show ah (ifS _ _ _) _ (sV ns cs zs gs (some (.sh,.int n)) (some (.sh,.int n)) (some (.sh,.int (zs.length:Int))) (some (.sh,.int (x%(zs.length:Int)))) (some (.sh,.int f)) (some (.sh,.lst od)) (some (.sh,lsD' qs)) (some (.sh,aV qs gs)))=_;refine gh ?_ (dG (ax (d:=.bl true) ?_ rfl))
 ·simp only[sV,ju,aB,map_some,Option.map_none,jZ,pi,cK,ai,aq,aH,ao,ar,Option.bind_some,e10,aR,iw,Bool.not_true]
 ·have e11:=ecn (o6:=some (.int n)) (o7:=some (.int n)) (o8:=some (.int (zs.length:Int))) (o9:=some (.int (x%(zs.length:Int)))) (o10:=some (.int f)) (o11:=some (.lst od)) (o12:=some (lsD' qs)) (o13:=some (aV qs gs)) 2 rfl;show(clF cn (aa (va 2) (aa (va 5) ae)) [some (scD ns),some (scD cs),some (lsD' zs),some (gsD gs),some (lsD' zs),some (aV zs gs),some (.int n),some (.int n),some (.int (zs.length:Int)),some (.int (x%(zs.length:Int))),some (.int f),some (.lst od),some (lsD' qs),some (aV qs gs),none]).bind (λa=>bi false a (.int n))=_;rw[e11,Option.bind_some,pv];simp
end K16
namespace K16
open PySem PySem.Spec PyProof.Rows L2
def scK (N P:List Str) (sc:Scope):Bool:=decide (sc.kind=.function)&&(!sc.isCoroutine&&(!sc.isGenerator&&(decide N.Nodup&&(decide (N.take P.length=P)&&((P.all λx=>decide (sc.names.lookup x=some .local)||decide (sc.names.lookup x=some .cell))&&sc.names.all λy=>!decide (y.2=.free))))))
theorem scB (h:scK N P sc=true):FnScope N P sc:=by
 simp only[scK,and_eq_true,decide_eq_true_eq,Bool.not_eq_true',List.all_eq_true,Bool.or_eq_true,decide_eq_false_iff_not]at h;exact⟨h.1,h.2.1,h.2.2.1,h.2.2.2.1,h.2.2.2.2.1,h.2.2.2.2.2.1,h.2.2.2.2.2.2⟩
def top (i:Nat):Stmt:=PySem.Challenge.pw_pocketmill_k29_codes_needed.main.body.getD i (.Pass ⟨0,0,0,0⟩)
def G0:Gb where
 fn:=λ_=>none
 cn:=λx=>if x=("KINDS":Str)then some (.tup [(.str "queue"),(.str "pile")])else if x=("MOST_PASSES":Str)then some (.int 6)else if x=("MOST_POCKETS":Str)then some (.int 6)else if x=("MOST_WIDTH":Str)then some (.int 9)else if x=("MOST_CODES":Str)then some (.int 1000)else if x=("MOST_SIZE":Str)then some (.int 9)else if x=("MOST_LETTERS":Str)then some (.int 24)else if x=("GROUP_KINDS":Str)then some (.tup [(.str "any"),(.str "come"),(.str "row")])else none
 no:=λx=>if x=("all":Str)then true else if x=("bool":Str)then true else if x=("enumerate":Str)then true else if x=("int":Str)then true else if x=("isinstance":Str)then true else if x=("len":Str)then true else if x=("list":Str)then true else if x=("max":Str)then true else if x=("range":Str)then true else if x=("sorted":Str)then true else if x=("tuple":Str)then true else false
 fl:=λC m=>if C=("Mill":Str)/\m=("passes":Str)then true else if C=("Wish":Str)/\m=("groups":Str)then true else if C=("Wish":Str)/\m=("level_letters":Str)then true else if C=("Wish":Str)/\m=("level_numbers":Str)then true else false
 mt:=λ_ _=>none
 ini:=λ_=>none
def XN:List Str:=["BadMill","BadLetters","BadWish","BadCount"]
def XR:List Str:=["BadLetters"]
def tb:Str->Str->Option Bool:=tbX XN
def hb:Str->Bool:=hbX XN
def Z0:Zn:=⟨λx=>decide (x∈XR),λ_=>none,λ_=>none⟩
abbrev eN:Stmt:=top 14
abbrev n6:List Str:=["value","least","most"]
abbrev n9:List Str:=["value","least","most"]
def uA (x:Str) (st:Stmt) (ps:List Str) (us:List Value):Prop:=∀ (qual:Str) (kV doc pm:Value) (an:Option Addr) (cdv ct:Value),bindArgs (PySem.W.fnOf x qual (cc st) (aC st) (aj st) .none kV doc pm an cdv ct) ⟨us,[]⟩=pure (ps.zip us)
theorem bd1 {st} (e:ps.length=1) (h:∀u0,uA x st ps [u0]):bF x st ps:=λq k d p a c t us hl=>match us,hl.trans e with|[u0],_=>h u0 q k d p a c t
theorem bd2 {st} (e:ps.length=2) (h:∀u0 u1,uA x st ps [u0,u1]):bF x st ps:=λq k d p a c t us hl=>match us,hl.trans e with|[u0,u1],_=>h u0 u1 q k d p a c t
theorem bd3 {st} (e:ps.length=3) (h:∀u0 u1 u2,uA x st ps [u0,u1,u2]):bF x st ps:=λq k d p a c t us hl=>match us,hl.trans e with|[u0,u1,u2],_=>h u0 u1 u2 q k d p a c t
def aI:List D->Option Sl:=dfn 60 0 n6 n9 eN G0
theorem og:aI=aO 3 3 (gP):=by kernel_rfl
def G1:Gb:=addF G0 "is_within" 1 aI
abbrev eO:Stmt:=top 16
abbrev oh:List Str:=["pocket"]
abbrev oi:List Str:=["pocket"]
def sv:List D->Option Sl:=dfn 60 1 oh oi eO G1
def G2:Gb:=addF G1 "is_pocket" 2 sv
abbrev gY:Stmt:=top 17
abbrev sy:List Str:=["pockets","pocket"]
abbrev sA:List Str:=["pockets"]
def iA:List D->Option Sl:=dfn 60 2 sy sA gY G2
def G3:Gb:=addF G2 "is_pass" 3 iA
abbrev fY:Stmt:=top 19
abbrev qA:List Str:=["passes","product","pockets"]
abbrev qB:List Str:=["passes"]
def c5:List D->Option Sl:=dfn 60 3 qA qB fY G3
theorem qC:c5=aO 1 3 (nB):=by kernel_rfl
def G4:Gb:=addF G3 "codes_of" 4 c5
abbrev eg:Stmt:=top 18
abbrev nF:List Str:=["passes","pockets"]
abbrev nH:List Str:=["passes"]
def bx:List D->Option Sl:=dfn 60 4 nF nH eg G4
theorem nI:bx=aO 1 2 (fS c5 iA):=by kernel_rfl
def G5:Gb:=addF G4 "are_passes" 5 bx
abbrev aE:Stmt:=lW (top 20) 0
abbrev cR:List Str:=["self","passes","pockets"]
abbrev eF:List Str:=["self","passes"]
theorem i9:FnScope cR eF (aj aE):=scB (by kernel_rfl)
theorem jz:bF "__init__" aE eF:=bd2 rfl λ_ _ _ _ _ _ _ _ _=>rfl
theorem jA (y:Addr):inx 60 (lA cR aE 5 G5) y (G0.fl "Mill") (aC aE)=j2 bx y:=by kernel_rfl
def gZ:List D->Option (List (Str×D)):=gW 2 3 (j2 bx)
def G6:Gb:=addI G5 "Mill" 6 gZ
abbrev hU:Stmt:=top 15
abbrev sB:List Str:=["size"]
abbrev sC:List Str:=["size"]
def dR:List D->Option Sl:=dfn 60 6 sB sC hU G6
theorem sE:dR=aO 1 1 (j4 aI):=by kernel_rfl
def G7:Gb:=addF G6 "is_size" 7 dR
abbrev bX:Stmt:=lW (top 20) 2
abbrev iQ:List Str:=["self"]
abbrev eQ:List Str:=["self"]
theorem nJ:FnScope iQ eQ (aj bX):=scB (by kernel_rfl)
theorem oj:bF "many" bX eQ:=bd1 rfl λ_ _ _ _ _ _ _ _=>rfl
def hW:List D->Option Sl:=dfn 60 7 iQ eQ bX G7
theorem om:hW=aO 1 1 (eC G0.fl):=by kernel_rfl
def G8:Gb:=addM G7 "many" "Mill" 8 hW
abbrev hZ:Stmt:=top 21
abbrev sF:List Str:=["mill","late"]
abbrev sG:List Str:=["mill","late"]
def dS:List D->Option Sl:=dfn 60 8 sF sG hZ G8
theorem sH:dS=aO 2 2 (j3 (G8.mt "many") 8 aI):=by kernel_rfl
def G9:Gb:=addF G8 "is_late" 9 dS
abbrev eR:Stmt:=top 24
abbrev oo:List Str:=["mill","letter"]
abbrev oq:List Str:=["mill","letter"]
def bA:List D->Option Sl:=dfn 60 9 oo oq eR G9
theorem ot:bA=aO 2 2 (gQ dS dR):=by kernel_rfl
def G10:Gb:=addF G9 "is_letter" 10 bA
abbrev aX:Stmt:=top 25
abbrev cq:List Str:=["mill","letters","letter"]
abbrev bL:List Str:=["mill","letters"]
theorem dm:FnScope cq bL (aj aX):=scB (by kernel_rfl)
theorem dH:bF "look_at_letters" aX bL:=bd2 rfl λ_ _ _ _ _ _ _ _ _=>rfl
def bh:List D->Option Sl:=dfn 60 10 cq bL aX G10
theorem iD:bh=aO 2 3 (cM bA):=by kernel_rfl
def G11:Gb:=addF G10 "look_at_letters" 11 bh
def aY:List D->Option Str:=dfz 60 10 cq bL aX G10 Z0
theorem ia:aY=rX 2 3 (bU bA):=by kernel_rfl
def Z11:Zn:=zJ Z0 "look_at_letters" 11 aY
abbrev bt:Stmt:=lW (top 37) 1
abbrev gj:List Str:=["self","level"]
abbrev dA:List Str:=["self"]
theorem ki:FnScope gj dA (aj bt):=scB (by kernel_rfl)
theorem lG:bF "levels" bt dA:=bd1 rfl λ_ _ _ _ _ _ _ _=>rfl
def dj:List D->Option Sl:=dfn 60 11 gj dA bt G11
theorem lH:dj=aO 1 2 (dh G0.fl):=by kernel_rfl
def G12:Gb:=addM G11 "levels" "Wish" 12 dj
abbrev bo:Stmt:=top 27
abbrev c6:List Str:=["letters","wish","needed","edge","level","lesser","letter"]
abbrev cf:List Str:=["letters","wish"]
theorem eG:FnScope c6 cf (aj bo):=scB (by kernel_rfl)
theorem fD:bF "codes_needed" bo cf:=bd2 rfl λ_ _ _ _ _ _ _ _ _=>rfl
def aJ:List D->Option Sl:=dfn 60 12 c6 cf bo G12
theorem kj:aJ=aO 2 7 (d9 (G12.mt "levels") 12 gZ bh):=by kernel_rfl
def G13:Gb:=addF G12 "codes_needed" 13 aJ
def bp:List D->Option Str:=dfz 60 12 c6 cf bo G12 Z11
theorem jB:bp=rX 2 7 (cz gZ aY):=by kernel_rfl
def Z13:Zn:=zJ Z11 "codes_needed" 13 bp
abbrev fZ:Stmt:=top 30
abbrev qD:List Str:=["group","many","letter"]
abbrev qE:List Str:=["group","many"]
def c7:List D->Option Sl:=dfn 60 13 qD qE fZ G13
theorem qF:c7=aO 2 3 (i7 aI):=by kernel_rfl
def G14:Gb:=addF G13 "is_group" 14 c7
abbrev cr:Stmt:=top 31
abbrev iE:List Str:=["groups","found","kind","members"]
abbrev iF:List Str:=["groups"]
def aW:List D->Option Sl:=dfn 60 14 iE iF cr G14
theorem iG:aW=aO 1 4 (cO):=by kernel_rfl
def G15:Gb:=addF G14 "grouped_letters" 15 aW
abbrev eh:Stmt:=top 32
abbrev nK:List Str:=["groups","many","group"]
abbrev nL:List Str:=["groups","many"]
def bB:List D->Option Sl:=dfn 60 15 nK nL eh G15
theorem nM:bB=aO 2 3 (fV aW c7):=by kernel_rfl
def G16:Gb:=addF G15 "are_groups" 16 bB
abbrev bM:Stmt:=top 33
abbrev kl:List Str:=["letters","members"]
abbrev fE:List Str:=["letters","members"]
theorem jC:FnScope kl fE (aj bM):=scB (by kernel_rfl)
theorem km:bF "as_they_come" bM fE:=bd2 rfl λ_ _ _ _ _ _ _ _ _=>rfl
def bN:List D->Option Sl:=aO 2 2 cP
theorem kn:bN=aO 2 2 cP:=rfl
def G17:Gb:=addF G16 "as_they_come" 17 bN
abbrev c8:Stmt:=top 34
abbrev ko:List Str:=["letters","kind","members","ordered","letter"]
abbrev kq:List Str:=["letters","kind","members"]
def bO:List D->Option Sl:=dfn 60 17 ko kq c8 G17
theorem kr:bO=aO 3 5 (d7 bN):=by kernel_rfl
def G18:Gb:=addF G17 "group_levels" 18 bO
abbrev eS:Stmt:=top 35
abbrev ou:List Str:=["letters","groups","found","kind","members"]
abbrev ox:List Str:=["letters","groups"]
def bC:List D->Option Sl:=dfn 60 18 ou ox eS G18
theorem oy:bC=aO 2 5 (eE bO):=by kernel_rfl
def G19:Gb:=addF G18 "levels_of" 19 bC
abbrev ei:Stmt:=top 36
abbrev nN:List Str:=["levels","found","number","level","letter"]
abbrev nO:List Str:=["levels"]
def bD:List D->Option Sl:=dfn 60 19 nN nO ei G19
theorem nQ:bD=aO 1 5 (fW):=by kernel_rfl
def G20:Gb:=addF G19 "numbers_of" 20 bD
abbrev aF:Stmt:=lW (top 37) 0
abbrev cU:List Str:=["self","letters","groups","kind","members"]
abbrev eH:List Str:=["self","letters","groups"]
theorem ja:FnScope cU eH (aj aF):=scB (by kernel_rfl)
theorem jD:bF "__init__" aF eH:=bd3 rfl λ_ _ _ _ _ _ _ _ _ _=>rfl
theorem jE (y:Addr):inx 60 (lA cU aF 20 G20) y (G0.fl "Wish") (aC aF)=kh bD bC bB y:=by kernel_rfl
def kt:List D->Option (List (Str×D)):=gW 3 5 (kh bD bC bB)
def G21:Gb:=addI G20 "Wish" 21 kt
abbrev cV:Stmt:=top 39
abbrev jF:List Str:=["found"]
abbrev jG:List Str:=["found"]
def bu:List D->Option Sl:=dfn 60 21 jF jG cV G21
theorem jH:bu=aO 1 1 (dt):=by kernel_rfl
def G22:Gb:=addF G21 "_law_is_whole" 22 bu
abbrev ej:Stmt:=top 40
abbrev nR:List Str:=["script","many","tens","parts","k","cell"]
abbrev nS:List Str:=["script","many"]
def bV:List D->Option Sl:=dfn 60 22 nR nS ej G22
theorem nU:bV=aO 2 6 (fU):=by kernel_rfl
def G23:Gb:=addF G22 "_law_parts" 23 bV
abbrev dB:Stmt:=top 41
abbrev lI:List Str:=["script","many","stir","cell","numbers","k","mixed","number"]
abbrev lJ:List Str:=["script","many"]
def bG:List D->Option Sl:=dfn 60 23 lI lJ dB G23
theorem lK:bG=aO 2 8 (de bV):=by kernel_rfl
def G24:Gb:=addF G23 "_law_poured" 24 bG
abbrev c9:Stmt:=top 42
abbrev ku:List Str:=["numbers","many","late","k"]
abbrev kz:List Str:=["numbers"]
def bd:List D->Option Sl:=dfn 60 24 ku kz c9 G24
theorem kA:bd=aO 1 4 (d8):=by kernel_rfl
def G25:Gb:=addF G24 "_law_letters" 25 bd
abbrev dC:Stmt:=top 43
abbrev lL:List Str:=["numbers","letters","rest","groups","k","number"]
abbrev lM:List Str:=["numbers","letters"]
def bH:List D->Option Sl:=dfn 60 25 lL lM dC G25
theorem lN:bH=aO 2 6 (di):=by kernel_rfl
def G26:Gb:=addF G25 "_law_groups" 26 bH
abbrev dD:Stmt:=top 44
abbrev lO:List Str:=["groups","kind","told"]
abbrev lP:List Str:=["groups"]
def a9:List D->Option Sl:=dfn 60 26 lO lP dD G26
theorem lQ:a9=aO 1 3 (eM):=by kernel_rfl
def G27:Gb:=addF G26 "_law_copied" 27 a9
abbrev dE:Stmt:=top 45
abbrev lR:List Str:=["letters","groups","levels","kind","told","late","letter"]
abbrev lS:List Str:=["letters","groups"]
def bI:List D->Option Sl:=dfn 60 27 lR lS dE G27
theorem lT:bI=aO 2 7 (dg):=by kernel_rfl
def G28:Gb:=addF G27 "_law_levels" 28 bI
abbrev f8:Stmt:=top 47
abbrev qG:List Str:=["levels","given","needed","most","level","letter","last"]
abbrev qH:List Str:=["levels"]
def cE:List D->Option Sl:=dfn 60 28 qG qH f8 G28
theorem qI:cE=aO 1 7 (i8 (G28.mt "values") 28):=by kernel_rfl
def G29:Gb:=addF G28 "_law_due" 29 cE
abbrev bP:Stmt:=top 48
abbrev fF:List Str:=["letters","wish","kinds","e"]
abbrev db:List Str:=["letters","wish"]
theorem jI:FnScope fF db (aj bP):=scB (by kernel_rfl)
theorem kI:bF "_law_refused" bP db:=bd2 rfl λ_ _ _ _ _ _ _ _ _=>rfl
def bQ:List D->Option Sl:=I0 60 29 fF db bP G29 Z13 tb hb
theorem kJ:bQ=aO 2 4 (cQ aJ bp tb):=by kernel_rfl
def G30:Gb:=addF G29 "_law_refused" 30 bQ
abbrev jJ:Stmt:=top 49
abbrev vK:List Str:=["script","numbers","letters","groups","handed","wish","found","due","many","at","far","odd","bad","other","pair"]
abbrev qJ:List Str:=["script"]
theorem AC:FnScope vK qJ (aj jJ):=scB (by kernel_rfl)
theorem CI:bF "law" jJ qJ:=bd1 rfl λ_ _ _ _ _ _ _ _=>rfl
def DB:List D->Option Sl:=dfn 60 30 vK qJ jJ G30
theorem CJ:DB=aO 1 15 (Az aJ bQ a9 kt bu bI cE bH bd bG):=by kernel_rfl
structure Tx (K:Frag):Prop where
 v0:ck K "is_within" eN
 v1:ck K "is_pocket" eO
 v2:ck K "is_pass" gY
 v3:ck K "codes_of" fY
 v4:ck K "are_passes" eg
 v5:ck K "is_size" hU
 v6:ck K "is_late" hZ
 v7:ck K "is_letter" eR
 v8:ck K "look_at_letters" aX
 v9:ck K "codes_needed" bo
 v10:ck K "is_group" fZ
 v11:ck K "grouped_letters" cr
 v12:ck K "are_groups" eh
 v13:vp K "as_they_come" bM 198
 v14:ck K "group_levels" c8
 v15:ck K "levels_of" eS
 v16:ck K "numbers_of" ei
 v17:ck K "_law_is_whole" cV
 v18:ck K "_law_parts" ej
 v19:ck K "_law_poured" dB
 v20:ck K "_law_letters" c9
 v21:ck K "_law_groups" dC
 v22:ck K "_law_copied" dD
 v23:ck K "_law_levels" dE
 v24:ck K "_law_due" f8
 v25:ck K "_law_refused" bP
 v26:ck K "law" jJ
 bl:vq K 198
 v27:nq K "Mill" "__init__" "Mill.__init__" aE
 v28:nq K "Mill" "many" "Mill.many" bX
 v29:nq K "Wish" "levels" "Wish.levels" bt
 v30:nq K "Wish" "__init__" "Wish.__init__" aF
 v31:TCls K "Mill"
 v32:TCls K "Wish"
 v33:∃Ca,nsIn K mainGlobals "Mill"=some (some (.ref Ca))/\findIn K (.ref Ca) "passes"=some none
 v34:∃Ca,nsIn K mainGlobals "Wish"=some (some (.ref Ca))/\findIn K (.ref Ca) "groups"=some none
 v35:∃Ca,nsIn K mainGlobals "Wish"=some (some (.ref Ca))/\findIn K (.ref Ca) "level_letters"=some none
 v36:∃Ca,nsIn K mainGlobals "Wish"=some (some (.ref Ca))/\findIn K (.ref Ca) "level_numbers"=some none
 v37:∃ (a:Addr) (od:Option Addr) (n:Nat) (sl:Array (Option Value)) (t0:Tok) (t1:Tok),nsIn K mainGlobals "KINDS"=some (some (.ref a))/\K.lookup a=some ⟨.type "tuple",od,.seq #[.str "queue" t0,.str "pile" t1] n,sl⟩
 v38:∃t,nsIn K mainGlobals "MOST_PASSES"=some (some (.int 6 t))
 v39:∃t,nsIn K mainGlobals "MOST_POCKETS"=some (some (.int 6 t))
 v40:∃t,nsIn K mainGlobals "MOST_WIDTH"=some (some (.int 9 t))
 v41:∃t,nsIn K mainGlobals "MOST_CODES"=some (some (.int 1000 t))
 v42:∃t,nsIn K mainGlobals "MOST_SIZE"=some (some (.int 9 t))
 v43:∃t,nsIn K mainGlobals "MOST_LETTERS"=some (some (.int 24 t))
 v44:∃ (a:Addr) (od:Option Addr) (n:Nat) (sl:Array (Option Value)) (t0:Tok) (t1:Tok) (t2:Tok),nsIn K mainGlobals "GROUP_KINDS"=some (some (.ref a))/\K.lookup a=some ⟨.type "tuple",od,.seq #[.str "any" t0,.str "come" t1,.str "row" t2] n,sl⟩
 v45:nsIn K mainGlobals "all"=some none
 v46:nsIn K mainGlobals "bool"=some none
 v47:nsIn K mainGlobals "enumerate"=some none
 v48:nsIn K mainGlobals "int"=some none
 v49:nsIn K mainGlobals "isinstance"=some none
 v50:nsIn K mainGlobals "len"=some none
 v51:nsIn K mainGlobals "list"=some none
 v52:nsIn K mainGlobals "max"=some none
 v53:nsIn K mainGlobals "range"=some none
 v54:nsIn K mainGlobals "sorted"=some none
 v55:nsIn K mainGlobals "tuple"=some none
 v56:TExc K "BadLetters"
 xs:TXs K XN
theorem nV:jt aI:=by rw[og];exact zo
theorem Gh:zp dR:=by rw[sE];exact Ff nV
theorem Gi:Am c5:=by rw[qC];exact F6
theorem Gj:An bx:=by rw[nI];exact F7 Gi
theorem AD:ss gZ:=F8 Gj
theorem JE:G0.fl "Mill" "passes"=true:=by kernel_rfl
theorem Gk:Ao (G8.mt "many") 8:=by
 have e:G8.mt "many" "Mill"=some (8,hW):=by kernel_rfl
 show((G8.mt "many" "Mill").bind λz=>if z.1<=8/\("many":Str) ∉ [("passes":Str)]then z.2 [gX]else none)=_;rw[e];simp only[Option.bind_some];rw[if_pos (by decide),om];exact CD JE
theorem Gm:uu dS:=by rw[sH];exact CF Gk nV
theorem DC:su bA:=by rw[ot];exact F9 Gm Gh
theorem Gn:uv bh:=by rw[iD];exact CG DC
theorem CK:uw aY:=by rw[ia];exact Aq DC
theorem JF:FZ dj:=by rw[lH];exact Jt rfl
theorem LA:sCn aJ:=by
 rw[kj];exact Ly (k0:=12) (lv:=dj) (by kernel_rfl) (by decide) JF AD Gn
theorem JG:zCn bp:=by rw[jB];exact Jz AD CK
theorem CL:ul c7:=by rw[qF];exact Cv nV
theorem wH:nD aW:=by rw[iG];exact wE
theorem JH:FK bB:=by rw[nM];exact Jn wH CL
theorem Go:Ab bN:=by rw[kn];exact FM
theorem LB:sGL bO:=by rw[kr];exact Lx Go
theorem JI:FQ bC:=by rw[oy];exact Jr LB
theorem JJ:FO bD:=by rw[nQ];exact Jq
theorem Gp:Aj kt:=FV JJ JI JH
theorem CM:ut bu:=by rw[jH];exact CC
theorem CN:uj bV:=by rw[nU];exact Cu
theorem z_poured:qq bG:=by rw[lK];exact z9 CN
theorem JK:F3 bd:=by rw[kA];exact Ju
theorem z_grp:F5 bH:=by rw[lN];exact Jw
theorem JL:FU a9:=by rw[lQ];exact Js
theorem Gq:FS bI:=by rw[lT];exact FT
theorem LC:sDu cE:=by rw[qI];exact Lz
theorem JM:Gd bQ:=by rw[kJ];exact JB JG
theorem JN:∀ns:List Int,ns.length<=63->jj (DB [.lst (ns.map D.int)])=some (.bl true):=λns hn=>by
 rw[CJ];exact congrArg jj (JD LA JM JL Gp CM Gq LC z_grp JK z_poured ns hn)
def Q:Program:={PySem.Challenge.pw_pocketmill_k29_codes_needed with main:={PySem.Challenge.pw_pocketmill_k29_codes_needed.main with body:=[top 0,top 2,top 3,top 4,top 5,top 6,top 8,top 9,top 10,top 11,top 12,top 13,top 14,top 15,top 16,top 17,top 18,top 19,top 20,top 21,top 23,top 24,top 25,top 27,top 29,top 30,top 31,top 32,top 33,top 34,top 35,top 36,top 37,top 39,top 40,top 41,top 42,top 43,top 44,top 45,top 46,top 47,top 48,top 49]}}
abbrev kH (P:Params) (x:Str) (n:Nat) (v:Value):DictEntry:=⟨PyData.keyHash P x,(.str x n),v⟩
abbrev kC (x:Str) (a:Nat) (y:Str) (b c:Nat) (i j k l m:Int) (r:Nat) (n:Int) (p:Nat) (v q s t:Value) (u w:Int) (d:Nat):Obj:=⟨(.type "code"),none,(.fields #[(.str x a),(.str y b),(.str "/claim/cut.py" c),(.int i 0),(.int j 0),(.int k 0),(.int l 0),(.int m 0),(.ref r),(.bool true),(.int n 0),(.ref p),v,q,s,t,(.int u 0),(.int w 0),(.str "/claim/cut.py" d)]),#[]⟩
abbrev kF (x y:Str) (st:Stmt) (z:Str) (n r:Nat):Obj:=⟨(.type "function"),none,(.func (PySem.W.fnOf x y (cc st) (aC st) (aj st) .none .none .none (.str z n) none (.ref r) .none)),#[]⟩
theorem tdG {K} {st} (f:Addr) (z:Str) (n c:Nat) (a:(nsIn K mainGlobals x,K.lookup f,PySem.W.codeIn K (.ref c) x,PySem.W.keepIn K (.ref f))=(some (some (.ref f)),some ⟨.type "function",none,.func (PySem.W.fnOf x x (cc st) (aC st) (aj st) .none .none .none (.str z n) none (.ref c) .none),#[]⟩,true,true)):ck K x st:=by
 simp only[Prod.mk.injEq]at a;exact Lm a.1 a.2.1 a.2.2.1 a.2.2.2
abbrev mN0:Str:="law_pocketmill_k29_codes_needed"
abbrev mN1:Str:="pocketmill.fewest"
abbrev mN2:Str:="pocketmill.mills"
abbrev mN3:Str:="pocketmill.trays"
abbrev mN4:Str:="pocketmill.wishes"
abbrev kD (x:Str) (a:Nat) (i j:Int) (r:Nat) (e:Int):Obj:=kC x a x (a+1) (a+2) i j 0 0 3 r 181 (r+1) .none (.ref (r+2)) (.ref (r+3)) (.ref (r+4)) e i (e+1).toNat
abbrev kE (x:Str) (a:Nat) (i j:Int) (r:Nat) (e:Int):Obj:=kC x a x (a+1) (a+2) i j 0 0 3 r 181 (r+1) .none .none .none (.ref (r+2)) e i (e+1).toNat
abbrev kG (x:Str) (st:Stmt) (z:Str) (n r:Nat):Obj:=kF x x st z n r
def KK (P:Params):Frag:=[(2,⟨.none,none,(.dict #[] 0),#[]⟩),
 (3,⟨(.type "dict"),none,(.dict #[(kH P "__name__" 165 (.str "law_pocketmill_k29_codes_needed" 552)),(kH P "__doc__" 166 .none),(kH P "__package__" 167 .none),(kH P "__loader__" 168 (.builtin "__main__.__loader__#opaque")),(kH P "__spec__" 169 .none),(kH P "__annotations__" 170 (.ref 6)),(kH P "__builtins__" 171 (.ref 4)),(kH P "__file__" 173 (.str "/claim/cut.py" 172)),(kH P "__cached__" 174 .none),(kH P "_wall" 193 (.ref 21)),(kH P "MillError" 213 (.ref 31)),(kH P "BadMill" 229 (.ref 44)),(kH P "BadLetters" 245 (.ref 56)),(kH P "BadWish" 261 (.ref 68)),(kH P "BadCount" 277 (.ref 80)),(kH P "KINDS" 282 (.ref 83)),(kH P "MOST_PASSES" 284 (.int 6 283)),(kH P "MOST_POCKETS" 286 (.int 6 285)),(kH P "MOST_WIDTH" 288 (.int 9 287)),(kH P "MOST_CODES" 290 (.int 1000 289)),(kH P "MOST_SIZE" 292 (.int 9 291)),(kH P "is_within" 301 (.ref 90)),(kH P "is_size" 308 (.ref 97)),(kH P "is_pocket" 315 (.ref 104)),(kH P "is_pass" 321 (.ref 109)),(kH P "are_passes" 327 (.ref 114)),(kH P "codes_of" 336 (.ref 121)),(kH P "Mill" 377 (.ref 150)),(kH P "is_late" 385 (.ref 161)),(kH P "MOST_LETTERS" 389 (.int 24 388)),(kH P "is_letter" 397 (.ref 168)),(kH P "look_at_letters" 403 (.ref 173)),(kH P "codes_needed" 411 (.ref 178)),(kH P "GROUP_KINDS" 417 (.ref 179)),(kH P "is_group" 423 (.ref 184)),(kH P "grouped_letters" 433 (.ref 191)),(kH P "are_groups" 439 (.ref 196)),(kH P "as_they_come" 448 (.ref 203)),(kH P "group_levels" 454 (.ref 208)),(kH P "levels_of" 465 (.ref 215)),(kH P "numbers_of" 476 (.ref 222)),(kH P "Wish" 551 (.ref 277)),(kH P "_law_is_whole" 560 (.ref 288)),(kH P "_law_parts" 572 (.ref 295)),(kH P "_law_poured" 586 (.ref 302)),(kH P "_law_letters" 592 (.ref 307)),(kH P "_law_groups" 604 (.ref 314)),(kH P "_law_copied" 610 (.ref 319)),(kH P "_law_levels" 616 (.ref 324)),(kH P "_law_places" 626 (.ref 331)),(kH P "_law_due" 632 (.ref 336)),(kH P "_law_refused" 642 (.ref 343)),(kH P "law" 648 (.ref 348))] 53),#[]⟩),
 (4,⟨(.type "module"),(some 0),.plain,#[]⟩),
 (29,⟨(.type "tuple"),none,(.seq #[] 0),#[]⟩),
 (30,⟨(.type "dict"),none,(.dict #[(kH P "__module__" 203 (.str "pocketmill.errors" 194)),(kH P "__firstlineno__" 207 (.int 5 206)),(kH P "__static_attributes__" 208 (.ref 29)),(kH P "__weakref__" 210 (.ref 32)),(kH P "__doc__" 211 .none)] 3),#[]⟩),
 (31,⟨(.type "type"),none,(.cls ⟨"MillError",[(.type "ValueError")],[(.ref 31),(.type "ValueError"),(.type "Exception"),(.type "BaseException"),(.type "object")],30,"MillError",true,[],[(.ref 44),(.ref 56),(.ref 68),(.ref 80)],false,none,false⟩),#[(some (.ref 22)),none,(some (.str "MillError" 196)),(some (.str "MillError" 204)),(some (.builtin "ValueError.__new__")),(some (.bool true))]⟩),
 (32,⟨(.type "getset_descriptor"),none,(.fields #[(.str "__weakref__" 209),(.ref 31),(.builtin "ExceptionGroup.__weakref__"),.none]),#[]⟩),
 (42,⟨(.type "tuple"),none,(.seq #[] 0),#[]⟩),
 (43,⟨(.type "dict"),none,(.dict #[(kH P "__module__" 221 (.str "pocketmill.errors" 194)),(kH P "__firstlineno__" 225 (.int 7 224)),(kH P "__static_attributes__" 226 (.ref 42)),(kH P "__doc__" 227 .none)] 2),#[]⟩),
 (44,⟨(.type "type"),none,(.cls ⟨"BadMill",[(.ref 31)],[(.ref 44),(.ref 31),(.type "ValueError"),(.type "Exception"),(.type "BaseException"),(.type "object")],43,"BadMill",true,[],[],false,none,false⟩),#[(some (.ref 35)),none,(some (.str "BadMill" 214)),(some (.str "BadMill" 222)),(some (.builtin "ValueError.__new__")),(some (.bool true))]⟩),
 (54,⟨(.type "tuple"),none,(.seq #[] 0),#[]⟩),
 (55,⟨(.type "dict"),none,(.dict #[(kH P "__module__" 237 (.str "pocketmill.errors" 194)),(kH P "__firstlineno__" 241 (.int 9 240)),(kH P "__static_attributes__" 242 (.ref 54)),(kH P "__doc__" 243 .none)] 2),#[]⟩),
 (56,⟨(.type "type"),none,(.cls ⟨"BadLetters",[(.ref 31)],[(.ref 56),(.ref 31),(.type "ValueError"),(.type "Exception"),(.type "BaseException"),(.type "object")],55,"BadLetters",true,[],[],false,none,false⟩),#[(some (.ref 47)),none,(some (.str "BadLetters" 230)),(some (.str "BadLetters" 238)),(some (.builtin "ValueError.__new__")),(some (.bool true))]⟩),
 (66,⟨(.type "tuple"),none,(.seq #[] 0),#[]⟩),
 (67,⟨(.type "dict"),none,(.dict #[(kH P "__module__" 253 (.str "pocketmill.errors" 194)),(kH P "__firstlineno__" 257 (.int 11 256)),(kH P "__static_attributes__" 258 (.ref 66)),(kH P "__doc__" 259 .none)] 2),#[]⟩),
 (68,⟨(.type "type"),none,(.cls ⟨"BadWish",[(.ref 31)],[(.ref 68),(.ref 31),(.type "ValueError"),(.type "Exception"),(.type "BaseException"),(.type "object")],67,"BadWish",true,[],[],false,none,false⟩),#[(some (.ref 59)),none,(some (.str "BadWish" 246)),(some (.str "BadWish" 254)),(some (.builtin "ValueError.__new__")),(some (.bool true))]⟩),
 (78,⟨(.type "tuple"),none,(.seq #[] 0),#[]⟩),
 (79,⟨(.type "dict"),none,(.dict #[(kH P "__module__" 269 (.str "pocketmill.errors" 194)),(kH P "__firstlineno__" 273 (.int 13 272)),(kH P "__static_attributes__" 274 (.ref 78)),(kH P "__doc__" 275 .none)] 2),#[]⟩),
 (80,⟨(.type "type"),none,(.cls ⟨"BadCount",[(.ref 31)],[(.ref 80),(.ref 31),(.type "ValueError"),(.type "Exception"),(.type "BaseException"),(.type "object")],79,"BadCount",true,[],[],false,none,false⟩),#[(some (.ref 71)),none,(some (.str "BadCount" 262)),(some (.str "BadCount" 270)),(some (.builtin "ValueError.__new__")),(some (.bool true))]⟩),
 (83,⟨(.type "tuple"),none,(.seq #[(.str "queue" 280),(.str "pile" 281)] 0),#[]⟩),
 (89,(kD "is_within" 293 22 3 84 299)),
 (90,(kG "is_within" eN mN2 278 89)),
 (96,(kD "is_size" 302 24 1 91 306)),
 (97,(kG "is_size" hU mN2 278 96)),
 (103,(kD "is_pocket" 309 26 1 98 313)),
 (104,(kG "is_pocket" eO mN2 278 103)),
 (108,(kE "is_pass" 316 30 1 105 319)),
 (109,(kG "is_pass" gY mN2 278 108)),
 (113,(kE "are_passes" 322 34 1 110 325)),
 (114,(kG "are_passes" eg mN2 278 113)),
 (120,(kD "codes_of" 328 38 1 115 334)),
 (121,(kG "codes_of" fY mN2 278 120)),
 (132,(kC "__init__" 349 "Mill.__init__" 350 351 45 2 0 0 3 129 181 130 .none .none .none (.ref 131) 352 45 353)),
 (133,(kF "__init__" "Mill.__init__" aE mN2 278 132)),
 (139,(kC "codes" 355 "Mill.codes" 356 357 50 1 0 0 3 134 181 135 .none (.ref 136) (.ref 137) (.ref 138) 359 50 360)),
 (146,(kC "many" 362 "Mill.many" 363 364 53 1 0 0 3 141 181 142 .none (.ref 143) (.ref 144) (.ref 145) 366 53 367)),
 (147,(kF "many" "Mill.many" bX mN2 278 146)),
 (148,⟨(.type "tuple"),none,(.seq #[(.str "passes" 369)] 0),#[]⟩),
 (149,⟨(.type "dict"),none,(.dict #[(kH P "__module__" 344 (.str "pocketmill.mills" 278)),(kH P "__firstlineno__" 348 (.int 43 347)),(kH P "__init__" 354 (.ref 133)),(kH P "codes" 361 (.ref 140)),(kH P "many" 368 (.ref 147)),(kH P "__static_attributes__" 370 (.ref 148)),(kH P "__dict__" 372 (.ref 151)),(kH P "__weakref__" 374 (.ref 152)),(kH P "__doc__" 375 .none)] 4),#[]⟩),
 (150,⟨(.type "type"),none,(.cls ⟨"Mill",[(.type "object")],[(.ref 150),(.type "object")],149,"Mill",true,[],[],false,none,false⟩),#[none,none,(some (.str "Mill" 337)),(some (.str "Mill" 345)),(some (.builtin "object.__new__")),(some (.bool true))]⟩),
 (151,⟨(.type "getset_descriptor"),none,(.fields #[(.str "__dict__" 371),(.ref 150),(.builtin "function.__dict__"),(.builtin "function.__dict__#set")]),#[]⟩),
 (152,⟨(.type "getset_descriptor"),none,(.fields #[(.str "__weakref__" 373),(.ref 150),(.builtin "ExceptionGroup.__weakref__"),.none]),#[]⟩),
 (160,(kD "is_late" 378 55 2 155 383)),
 (161,(kG "is_late" hZ mN2 278 160)),
 (167,(kD "is_letter" 390 59 2 162 395)),
 (168,(kG "is_letter" eR mN3 386 167)),
 (172,(kE "look_at_letters" 398 63 2 169 401)),
 (173,(kG "look_at_letters" aX mN3 386 172)),
 (177,(kE "codes_needed" 406 69 2 174 409)),
 (178,(kG "codes_needed" bo mN1 404 177)),
 (179,⟨(.type "tuple"),none,(.seq #[(.str "any" 414),(.str "come" 415),(.str "row" 416)] 0),#[]⟩),
 (183,(kE "is_group" 418 81 2 180 421)),
 (184,(kG "is_group" fZ mN4 412 183)),
 (190,(kD "grouped_letters" 424 87 1 185 431)),
 (191,(kG "grouped_letters" cr mN4 412 190)),
 (195,(kE "are_groups" 434 92 2 192 437)),
 (196,(kG "are_groups" eh mN4 412 195)),
 (202,(kD "as_they_come" 440 96 2 197 446)),
 (203,(kG "as_they_come" bM mN4 412 202)),
 (207,(kE "group_levels" 449 98 3 204 452)),
 (208,(kG "group_levels" c8 mN4 412 207)),
 (214,(kD "levels_of" 455 103 2 209 463)),
 (215,(kG "levels_of" eS mN4 412 214)),
 (221,(kD "numbers_of" 466 108 1 216 474)),
 (222,(kG "numbers_of" ei mN4 412 221)),
 (233,(kC "__init__" 489 "Wish.__init__" 490 491 116 3 0 0 3 230 181 231 .none .none .none (.ref 232) 492 116 493)),
 (234,(kF "__init__" "Wish.__init__" aF mN4 412 233)),
 (238,(kC "levels" 495 "Wish.levels" 496 497 123 1 0 0 3 235 181 236 .none .none .none (.ref 237) 498 123 499)),
 (239,(kF "levels" "Wish.levels" bt mN4 412 238)),
 (245,(kC "level_of" 501 "Wish.level_of" 502 503 126 2 0 0 3 240 181 241 .none (.ref 242) (.ref 243) (.ref 244) 506 126 507)),
 (252,(kC "behind" 509 "Wish.behind" 510 511 129 3 0 0 3 247 181 248 .none (.ref 249) (.ref 250) (.ref 251) 515 129 516)),
 (259,(kC "breach" 518 "Wish.breach" 519 520 132 2 0 0 3 254 181 255 .none (.ref 256) (.ref 257) (.ref 258) 523 132 524)),
 (266,(kC "kept_by" 526 "Wish.kept_by" 527 528 135 2 0 0 3 261 181 262 .none (.ref 263) (.ref 264) (.ref 265) 531 135 532)),
 (273,(kC "one_order" 534 "Wish.one_order" 535 536 138 1 0 0 3 268 181 269 .none (.ref 270) (.ref 271) (.ref 272) 538 138 539)),
 (275,⟨(.type "tuple"),none,(.seq #[(.str "groups" 541),(.str "level_letters" 542),(.str "level_numbers" 543)] 0),#[]⟩),
 (276,⟨(.type "dict"),none,(.dict #[(kH P "__module__" 484 (.str "pocketmill.wishes" 412)),(kH P "__firstlineno__" 488 (.int 114 487)),(kH P "__init__" 494 (.ref 234)),(kH P "levels" 500 (.ref 239)),(kH P "level_of" 508 (.ref 246)),(kH P "behind" 517 (.ref 253)),(kH P "breach" 525 (.ref 260)),(kH P "kept_by" 533 (.ref 267)),(kH P "one_order" 540 (.ref 274)),(kH P "__static_attributes__" 544 (.ref 275)),(kH P "__dict__" 546 (.ref 278)),(kH P "__weakref__" 548 (.ref 279)),(kH P "__doc__" 549 .none)] 4),#[]⟩),
 (277,⟨(.type "type"),none,(.cls ⟨"Wish",[(.type "object")],[(.ref 277),(.type "object")],276,"Wish",true,[],[],false,none,false⟩),#[none,none,(some (.str "Wish" 477)),(some (.str "Wish" 485)),(some (.builtin "object.__new__")),(some (.bool true))]⟩),
 (278,⟨(.type "getset_descriptor"),none,(.fields #[(.str "__dict__" 545),(.ref 277),(.builtin "function.__dict__"),(.builtin "function.__dict__#set")]),#[]⟩),
 (279,⟨(.type "getset_descriptor"),none,(.fields #[(.str "__weakref__" 547),(.ref 277),(.builtin "ExceptionGroup.__weakref__"),.none]),#[]⟩),
 (287,(kD "_law_is_whole" 554 141 1 282 558)),
 (288,(kG "_law_is_whole" cV mN0 552 287)),
 (294,(kD "_law_parts" 561 143 2 289 570)),
 (295,(kG "_law_parts" ej mN0 552 294)),
 (301,(kD "_law_poured" 573 152 2 296 584)),
 (302,(kG "_law_poured" dB mN0 552 301)),
 (306,(kE "_law_letters" 587 169 1 303 590)),
 (307,(kG "_law_letters" c9 mN0 552 306)),
 (313,(kD "_law_groups" 593 173 2 308 602)),
 (314,(kG "_law_groups" dC mN0 552 313)),
 (318,(kE "_law_copied" 605 182 1 315 608)),
 (319,(kG "_law_copied" dD mN0 552 318)),
 (323,(kE "_law_levels" 611 184 2 320 614)),
 (324,(kG "_law_levels" dE mN0 552 323)),
 (335,(kE "_law_due" 627 203 1 332 630)),
 (336,(kG "_law_due" f8 mN0 552 335)),
 (342,(kD "_law_refused" 633 222 2 337 640)),
 (343,(kG "_law_refused" bP mN0 552 342)),
 (347,(kE "law" 643 229 1 344 646)),
 (348,(kG "law" jJ mN0 552 347))]
def KT (P:Params):Frag:=(198,⟨.none,none,.fields #[],#[]⟩)::KK P
def adr:List Addr:=[198,2,3,4,29,30,31,32,42,43,44,54,55,56,66,67,68,78,79,80,83,89,90,96,97,103,104,108,109,113,114,120,121,132,133,139,146,147,148,149,150,151,152,160,161,167,168,172,173,177,178,179,183,184,190,191,195,196,202,203,207,208,214,215,221,222,233,234,238,239,245,252,259,266,273,275,276,277,278,279,287,288,294,295,301,302,306,307,313,314,318,319,323,324,335,336,342,343,347,348]
theorem adr_ok (P:Params):adr=(KT P).map (·.1):=by kernel_rfl
abbrev NN:Nat:=5538
def env0:Env:={scope:=PySem.Challenge.pw_pocketmill_k29_codes_needed.main.scope,locals:=mainNs,globals:=mainNs,cells:=[],code:=(.ref 13),frame:=some 14}
theorem Gs:∀w:World,(PySem.W.fencedOpening treeTable PySem.Challenge.pw_pocketmill_k29_codes_needed w NN).map (λs=>(s.heap,s.gens,s.drawn,s.toks))=some (PySem.W.boot_heap w.params,Array.mk [],PySem.W.boot_drawn,PySem.W.boot_toks):=PySem.W.boot_open (by kernel_rfl) (by decide) (λs=>by kernel_rfl)
theorem Gu (w:World):(PySem.W.boot_heap w.params).isNs mainGlobals=true/\(PySem.W.boot_heap w.params).objs.size=11/\(PySem.W.boot_heap w.params).nsMap mainGlobals "__annotations__"=(some (.ref 6)):=⟨by kernel_rfl,by kernel_rfl,by kernel_rfl⟩
theorem t_A (w:World) (os:OsState):(HD.A PySem.Challenge.pw_pocketmill_k29_codes_needed 11 (some (.ref 6)) 12 w os).map (·.2)=some ⟨denote treeTable (HD.cd PySem.Challenge.pw_pocketmill_k29_codes_needed env0),HD.cd PySem.Challenge.pw_pocketmill_k29_codes_needed env0,⟨0,0,0,0⟩,[PySem.W.topFrame ⟨0,0,0,0⟩]⟩:=by kernel_rfl
theorem t_B (w:World) (os:OsState):(HD.B PySem.Challenge.pw_pocketmill_k29_codes_needed 11 ((some (.ref 6))) env0 ⟨0,0,0,0⟩ ⟨0,0,0,0⟩ 12 1 w os).map (λr=>(r.1,r.2.2))=some (.next,HD.cd PySem.Challenge.pw_pocketmill_k29_codes_needed env0,⟨0,0,0,0⟩):=by kernel_rfl
theorem t_T (w:World) (os:OsState):(HD.toT (HD.SB PySem.Challenge.pw_pocketmill_k29_codes_needed 11 ((some (.ref 6))) env0 ⟨0,0,0,0⟩ ⟨0,0,0,0⟩ 12 1 w os)).abs=HD.SB PySem.Challenge.pw_pocketmill_k29_codes_needed 11 ((some (.ref 6))) env0 ⟨0,0,0,0⟩ ⟨0,0,0,0⟩ 12 1 w os:=by kernel_rfl
theorem t_C (w:World) (os:OsState):(HD.C PySem.Challenge.pw_pocketmill_k29_codes_needed 11 ((some (.ref 6))) env0 ⟨0,0,0,0⟩ ⟨0,0,0,0⟩ ⟨0,0,0,0⟩ 12 1 2707 w os).map (λr=>(r.1,r.2.2))=some (.next,HD.cd PySem.Challenge.pw_pocketmill_k29_codes_needed env0,⟨229,0,250,47⟩):=by kernel_rfl
theorem t_F (w:World) (s:Shared):PySem.W.topRun treeTable PySem.Challenge.pw_pocketmill_k29_codes_needed w 11 (some (.ref 6)) 2 s ⟨PySem.W.doneF .next,HD.cd PySem.Challenge.pw_pocketmill_k29_codes_needed env0,⟨229,0,250,47⟩,[PySem.W.topFrame ⟨0,0,0,0⟩]⟩=some s:=by kernel_rfl
noncomputable abbrev FF (w:World) (os:OsState):Shared:=(HD.SC PySem.Challenge.pw_pocketmill_k29_codes_needed 11 ((some (.ref 6))) env0 ⟨0,0,0,0⟩ ⟨0,0,0,0⟩ ⟨0,0,0,0⟩ 12 1 2707 w os).abs
abbrev XT (s:Shared):Bool:=PySem.W.xlAt Q [] s&&PySem.W.recOk PySem.Challenge.rw_pocketmill_k29_codes_needed.row.records s
theorem LD (w:World) (os:OsState):(PySem.W.staticsOk (importedModules PySem.Challenge.pw_pocketmill_k29_codes_needed.main.body) (PySem.W.boot_heap w.params) (FF w os).heap&&PySem.W.namesBound PySem.Challenge.pw_pocketmill_k29_codes_needed (FF w os).heap&&PySem.W.gensDone (FF w os)&&PySem.W.laidKept (PySem.W.boot_heap w.params) (FF w os).heap)=true:=by
 rw[PySem.W.Fast.te5923862056798008813];kernel_rfl
theorem LF (w:World) (os:OsState):PySem.W.openSeen Q [] (importedModules PySem.Challenge.pw_pocketmill_k29_codes_needed.main.body) XT true (FF w os)=PySem.W.openGood Q []:=by
 rw[PySem.W.Fast.te5923862056798008813,PySem.W.Fast.te4187177175401517315];kernel_rfl
theorem LG (w:World) (os:OsState):adr.map (FF w os).heap.get?=(KT w.params).map λp=>some p.2:=by kernel_rfl
theorem t_left:PySem.W.LeftO PySem.Challenge.pw_pocketmill_k29_codes_needed Q [] XT (PySem.W.Hook.obs (PySem.W.kHook KT adr adr_ok)) (PySem.W.Hook.val (PySem.W.kHook KT adr adr_ok)) NN:=
 HD.left_of Gs Gu (HD.run_of t_A t_B t_T t_C t_F) (by decide) λw os=>by rw[LD w os,LF w os];exact congrArg (λz=>(true,PySem.W.openGood Q [],z)) (LG w os)
theorem kK (P:Params):vp (KK P) "as_they_come" bM 198:=⟨203,202,(.type "function"),none,none,#[],.none,.none,(.str "pocketmill.wishes" 412),.none,by kernel_rfl,by kernel_rfl,by kernel_rfl,by kernel_rfl,by kernel_rfl⟩
theorem LH (P:Params):vq (KK P) 198:=⟨4,⟨.type "module",some 0,.plain,#[]⟩,by kernel_rfl,by decide,by decide,by decide,by kernel_rfl,rfl,rfl,rfl⟩
theorem jK (P:Params):nq (KK P) "Mill" "__init__" "Mill.__init__" aE:=BX (Ca:=150) (f:=133) (oc:=(.type "function")) (od:=none) (an:=none) (osl:=#[]) (kV:=.none) (doc:=.none) (pm:=(.str "pocketmill.mills" 278)) (cdv:=(.ref 132)) (ct:=.none) (by kernel_rfl) (by kernel_rfl) (by kernel_rfl) (by kernel_rfl) (by kernel_rfl) (by kernel_rfl)
theorem oz (P:Params):nq (KK P) "Mill" "many" "Mill.many" bX:=BX (Ca:=150) (f:=147) (oc:=(.type "function")) (od:=none) (an:=none) (osl:=#[]) (kV:=.none) (doc:=.none) (pm:=(.str "pocketmill.mills" 278)) (cdv:=(.ref 146)) (ct:=.none) (by kernel_rfl) (by kernel_rfl) (by kernel_rfl) (by kernel_rfl) (by kernel_rfl) (by kernel_rfl)
theorem lU (P:Params):nq (KK P) "Wish" "levels" "Wish.levels" bt:=BX (Ca:=277) (f:=239) (oc:=(.type "function")) (od:=none) (an:=none) (osl:=#[]) (kV:=.none) (doc:=.none) (pm:=(.str "pocketmill.wishes" 412)) (cdv:=(.ref 238)) (ct:=.none) (by kernel_rfl) (by kernel_rfl) (by kernel_rfl) (by kernel_rfl) (by kernel_rfl) (by kernel_rfl)
theorem jL (P:Params):nq (KK P) "Wish" "__init__" "Wish.__init__" aF:=BX (Ca:=277) (f:=234) (oc:=(.type "function")) (od:=none) (an:=none) (osl:=#[]) (kV:=.none) (doc:=.none) (pm:=(.str "pocketmill.wishes" 412)) (cdv:=(.ref 233)) (ct:=.none) (by kernel_rfl) (by kernel_rfl) (by kernel_rfl) (by kernel_rfl) (by kernel_rfl) (by kernel_rfl)
theorem lV (P:Params):∃ (a:Addr) (od:Option Addr) (n:Nat) (sl:Array (Option Value)) (t0:Tok) (t1:Tok) (t2:Tok),nsIn (KK P) mainGlobals "GROUP_KINDS"=some (some (.ref a))/\(KK P).lookup a=some ⟨.type "tuple",od,.seq #[.str "any" t0,.str "come" t1,.str "row" t2] n,sl⟩:=⟨179,none,0,#[],414,415,416,by kernel_rfl,by kernel_rfl⟩
theorem nW (P:Params):TExc (KK P) "BadLetters":=Lv (nm:="BadLetters") (qn:="BadLetters") (C:=56) (N:=55) (bs:=[(.ref 31)]) (bm:=[(.ref 31),(.type "ValueError"),(.type "Exception"),(.type "BaseException"),(.type "object")]) (hdct:=true) (sn:=[]) (sub:=[]) (ab:=false) (col:=none) (dd:=none) (k0:=(some (.ref 47))) (k1:=none) (k2:=(some (.str "BadLetters" 230))) (k3:=(some (.str "BadLetters" 238))) (k5:=(some (.bool true))) (by kernel_rfl) (by kernel_rfl) (by kernel_rfl) (by kernel_rfl) (by kernel_rfl)
theorem LI (P:Params):TXs (KK P) XN:=txs (M:=31) [("BadMill",44),("BadLetters",56),("BadWish",68),("BadCount",80)] (by kernel_rfl) (by kernel_rfl) (by kernel_rfl) (by kernel_rfl)
theorem tx (P:Params):Tx (KK P):=⟨tdG 90 mN2 278 89 (by kernel_rfl),tdG 104 mN2 278 103 (by kernel_rfl),tdG 109 mN2 278 108 (by kernel_rfl),tdG 121 mN2 278 120 (by kernel_rfl),tdG 114 mN2 278 113 (by kernel_rfl),tdG 97 mN2 278 96 (by kernel_rfl),tdG 161 mN2 278 160 (by kernel_rfl),tdG 168 mN3 386 167 (by kernel_rfl),tdG 173 mN3 386 172 (by kernel_rfl),tdG 178 mN1 404 177 (by kernel_rfl),tdG 184 mN4 412 183 (by kernel_rfl),tdG 191 mN4 412 190 (by kernel_rfl),tdG 196 mN4 412 195 (by kernel_rfl),kK P,tdG 208 mN4 412 207 (by kernel_rfl),tdG 215 mN4 412 214 (by kernel_rfl),tdG 222 mN4 412 221 (by kernel_rfl),tdG 288 mN0 552 287 (by kernel_rfl),tdG 295 mN0 552 294 (by kernel_rfl),tdG 302 mN0 552 301 (by kernel_rfl),tdG 307 mN0 552 306 (by kernel_rfl),tdG 314 mN0 552 313 (by kernel_rfl),tdG 319 mN0 552 318 (by kernel_rfl),tdG 324 mN0 552 323 (by kernel_rfl),tdG 336 mN0 552 335 (by kernel_rfl),tdG 343 mN0 552 342 (by kernel_rfl),tdG 348 mN0 552 347 (by kernel_rfl),LH P,jK P,oz P,lU P,jL P,IM (Ca:=150) (by kernel_rfl) (by kernel_rfl) (by kernel_rfl) (by kernel_rfl) (by kernel_rfl) (by kernel_rfl) (by kernel_rfl),IM (Ca:=277) (by kernel_rfl) (by kernel_rfl) (by kernel_rfl) (by kernel_rfl) (by kernel_rfl) (by kernel_rfl) (by kernel_rfl),tno (Ca:=150) (by kernel_rfl) (by kernel_rfl),tno (Ca:=277) (by kernel_rfl) (by kernel_rfl),tno (Ca:=277) (by kernel_rfl) (by kernel_rfl),tno (Ca:=277) (by kernel_rfl) (by kernel_rfl),IN (a:=83) (od:=none) (n:=0) (sl:=#[]) (t0:=280) (t1:=281) (by kernel_rfl) (by kernel_rfl),wx (t:=283) (by kernel_rfl),wx (t:=285) (by kernel_rfl),wx (t:=287) (by kernel_rfl),wx (t:=289) (by kernel_rfl),wx (t:=291) (by kernel_rfl),wx (t:=388) (by kernel_rfl),lV P,(by kernel_rfl),(by kernel_rfl),(by kernel_rfl),(by kernel_rfl),(by kernel_rfl),(by kernel_rfl),(by kernel_rfl),(by kernel_rfl),(by kernel_rfl),(by kernel_rfl),(by kernel_rfl),nW P,LI P⟩
section
variable {P:Program} {w:World} {K:Frag} {mg:Str->Option Value} {base h:Heap}
theorem gF {st} (z:K.In base/\base.Ns mainGlobals mg/\Tx K) (g:GbOk P w K mg base G) (k:Nat) (S:FnScope N ps (aj st)) (b:bF x st ps) (t:ck K x st):GbOk P w K mg base (addF G x (k+1) (dfn 60 k N ps st G)):=g.addF (Iy g z.1 z.2.1 60 k S b t)
variable (z:K.In base/\base.Ns mainGlobals mg/\Tx K)
include z
theorem g0:GbOk P w K mg base G0 where
 fn:=λx k f e=>nomatch e
 cn:=λx d e=>by
  simp only[G0]at e;split at e
  ·rename_i q;cases e;rw[q];exact cn_2str z.1 z.2.1 z.2.2.v37
  split at e
  ·rename_i q;cases e;rw[q];exact cn_int z.1 z.2.1 z.2.2.v38
  split at e
  ·rename_i q;cases e;rw[q];exact cn_int z.1 z.2.1 z.2.2.v39
  split at e
  ·rename_i q;cases e;rw[q];exact cn_int z.1 z.2.1 z.2.2.v40
  split at e
  ·rename_i q;cases e;rw[q];exact cn_int z.1 z.2.1 z.2.2.v41
  split at e
  ·rename_i q;cases e;rw[q];exact cn_int z.1 z.2.1 z.2.2.v42
  split at e
  ·rename_i q;cases e;rw[q];exact cn_int z.1 z.2.1 z.2.2.v43
  split at e
  ·rename_i q;cases e;rw[q];exact cn_3str z.1 z.2.1 z.2.2.v44
  cases e
 no:=λx e=>by
  dsimp only[G0]at e;by_cases q:x=("all":Str)
  ·rw[q];exact PySem.W.mg_none_of z.1 z.2.1 z.2.2.v45
  rw[if_neg q]at e;clear q;by_cases q:x=("bool":Str)
  ·rw[q];exact PySem.W.mg_none_of z.1 z.2.1 z.2.2.v46
  rw[if_neg q]at e;clear q;by_cases q:x=("enumerate":Str)
  ·rw[q];exact PySem.W.mg_none_of z.1 z.2.1 z.2.2.v47
  rw[if_neg q]at e;clear q;by_cases q:x=("int":Str)
  ·rw[q];exact PySem.W.mg_none_of z.1 z.2.1 z.2.2.v48
  rw[if_neg q]at e;clear q;by_cases q:x=("isinstance":Str)
  ·rw[q];exact PySem.W.mg_none_of z.1 z.2.1 z.2.2.v49
  rw[if_neg q]at e;clear q;by_cases q:x=("len":Str)
  ·rw[q];exact PySem.W.mg_none_of z.1 z.2.1 z.2.2.v50
  rw[if_neg q]at e;clear q;by_cases q:x=("list":Str)
  ·rw[q];exact PySem.W.mg_none_of z.1 z.2.1 z.2.2.v51
  rw[if_neg q]at e;clear q;by_cases q:x=("max":Str)
  ·rw[q];exact PySem.W.mg_none_of z.1 z.2.1 z.2.2.v52
  rw[if_neg q]at e;clear q;by_cases q:x=("range":Str)
  ·rw[q];exact PySem.W.mg_none_of z.1 z.2.1 z.2.2.v53
  rw[if_neg q]at e;clear q;by_cases q:x=("sorted":Str)
  ·rw[q];exact PySem.W.mg_none_of z.1 z.2.1 z.2.2.v54
  rw[if_neg q]at e;clear q;by_cases q:x=("tuple":Str)
  ·rw[q];exact PySem.W.mg_none_of z.1 z.2.1 z.2.2.v55
  rw[if_neg q]at e;clear q;cases e
 fl:=λC m Ca e hc=>by
  simp only[G0]at e;split at e
  ·rename_i q;rw[q.1]at hc;exact⟨ml z.2.2.v31 hc,fl_one z.2.2.v33 q.2 Ca hc⟩
  split at e
  ·rename_i q;rw[q.1]at hc;exact⟨ml z.2.2.v32 hc,fl_one z.2.2.v34 q.2 Ca hc⟩
  split at e
  ·rename_i q;rw[q.1]at hc;exact⟨ml z.2.2.v32 hc,fl_one z.2.2.v35 q.2 Ca hc⟩
  split at e
  ·rename_i q;rw[q.1]at hc;exact⟨ml z.2.2.v32 hc,fl_one z.2.2.v36 q.2 Ca hc⟩
  cases e
 mt:=λm C k f e=>nomatch e
 ini:=λC k g e=>nomatch e
theorem zz0:ZOk P w K mg base Z0 where
 cl:=λx hx=>by
  have hx:x∈XR:=of_decide_eq_true hx;unfold XR at hx;rcases mem_cons.mp hx with q|hx
  ·rw[q];exact z.2.2.v56.r z.1 z.2.1
  cases hx
 df:=λ_ _ _ e=>nomatch e
 mz:=λ_ _ _ e=>nomatch e
theorem g1:GbOk P w K mg base G1:=gF z (g0 z) 0 (scB (by kernel_rfl)) (bd3 rfl λ_ _ _ _ _ _ _ _ _ _=>rfl) z.2.2.v0
theorem g2:GbOk P w K mg base G2:=gF z (g1 z) 1 (scB (by kernel_rfl)) (bd1 rfl λ_ _ _ _ _ _ _ _=>rfl) z.2.2.v1
theorem g3:GbOk P w K mg base G3:=gF z (g2 z) 2 (scB (by kernel_rfl)) (bd1 rfl λ_ _ _ _ _ _ _ _=>rfl) z.2.2.v2
theorem g4:GbOk P w K mg base G4:=gF z (g3 z) 3 (scB (by kernel_rfl)) (bd1 rfl λ_ _ _ _ _ _ _ _=>rfl) z.2.2.v3
theorem g5:GbOk P w K mg base G5:=gF z (g4 z) 4 (scB (by kernel_rfl)) (bd1 rfl λ_ _ _ _ _ _ _ _=>rfl) z.2.2.v4
theorem g6:GbOk P w K mg base G6:=by
 have g:GbOk P w K mg base G5:=g5 z;exact g.addI (Dh g z.1 z.2.1 60 5 (G0.fl "Mill") i9 jz z.2.2.v31 z.2.2.v27 (λf e=>by
  simp only[G0]at e;split at e
  ·rename_i q;exact fl_one z.2.2.v33 q.2
  split at e
  ·rename_i q;exact absurd q.1 (by decide)
  split at e
  ·rename_i q;exact absurd q.1 (by decide)
  split at e
  ·rename_i q;exact absurd q.1 (by decide)
  cases e) (λds r hr y=>by
  rw[show(λy=>inx 60 (lA cR aE 5 G5) y (G0.fl "Mill") (aC aE))=j2 bx from funext jA];exact Ai hr y))
theorem g7:GbOk P w K mg base G7:=gF z (g6 z) 6 (scB (by kernel_rfl)) (bd1 rfl λ_ _ _ _ _ _ _ _=>rfl) z.2.2.v5
theorem g8:GbOk P w K mg base G8:=by
 have g:GbOk P w K mg base G7:=g7 z;exact g.addM (Dg g 60 7 nJ oj z.2.2.v31 z.2.2.v28)
theorem g9:GbOk P w K mg base G9:=gF z (g8 z) 8 (scB (by kernel_rfl)) (bd2 rfl λ_ _ _ _ _ _ _ _ _=>rfl) z.2.2.v6
theorem g10:GbOk P w K mg base G10:=gF z (g9 z) 9 (scB (by kernel_rfl)) (bd2 rfl λ_ _ _ _ _ _ _ _ _=>rfl) z.2.2.v7
theorem g11:GbOk P w K mg base G11:=gF z (g10 z) 10 dm dH z.2.2.v8
theorem JO:ZOk P w K mg base Z11:=(zz0 z).addf (Dp (g10 z) (zz0 z) z.1 z.2.1 60 10 dm dH z.2.2.v8)
theorem g12:GbOk P w K mg base G12:=by
 have g:GbOk P w K mg base G11:=g11 z;exact g.addM (Dg g 60 11 ki lG z.2.2.v32 z.2.2.v29)
theorem g13:GbOk P w K mg base G13:=gF z (g12 z) 12 eG fD z.2.2.v9
theorem LJ:ZOk P w K mg base Z13:=(JO z).addf (Dp (g12 z) (JO z) z.1 z.2.1 60 12 eG fD z.2.2.v9)
theorem g14:GbOk P w K mg base G14:=gF z (g13 z) 13 (scB (by kernel_rfl)) (bd2 rfl λ_ _ _ _ _ _ _ _ _=>rfl) z.2.2.v10
theorem g15:GbOk P w K mg base G15:=gF z (g14 z) 14 (scB (by kernel_rfl)) (bd1 rfl λ_ _ _ _ _ _ _ _=>rfl) z.2.2.v11
theorem g16:GbOk P w K mg base G16:=gF z (g15 z) 15 (scB (by kernel_rfl)) (bd2 rfl λ_ _ _ _ _ _ _ _ _=>rfl) z.2.2.v12
theorem g17:GbOk P w K mg base G17:=by
 have g:GbOk P w K mg base G16:=g16 z;exact g.addF (Cj g z.1 z.2.1 16 97 jC km z.2.2.v13 z.2.2.bl (by kernel_rfl) rfl (by decide) (by kernel_rfl) (by kernel_rfl) (by kernel_rfl) (by kernel_rfl))
theorem g18:GbOk P w K mg base G18:=gF z (g17 z) 17 (scB (by kernel_rfl)) (bd3 rfl λ_ _ _ _ _ _ _ _ _ _=>rfl) z.2.2.v14
theorem g19:GbOk P w K mg base G19:=gF z (g18 z) 18 (scB (by kernel_rfl)) (bd2 rfl λ_ _ _ _ _ _ _ _ _=>rfl) z.2.2.v15
theorem g20:GbOk P w K mg base G20:=gF z (g19 z) 19 (scB (by kernel_rfl)) (bd1 rfl λ_ _ _ _ _ _ _ _=>rfl) z.2.2.v16
theorem g21:GbOk P w K mg base G21:=by
 have g:GbOk P w K mg base G20:=g20 z;exact g.addI (Dh g z.1 z.2.1 60 20 (G0.fl "Wish") ja jD z.2.2.v32 z.2.2.v30 (λf e=>by
  simp only[G0]at e;split at e
  ·rename_i q;exact absurd q.1 (by decide)
  split at e
  ·rename_i q;exact fl_one z.2.2.v34 q.2
  split at e
  ·rename_i q;exact fl_one z.2.2.v35 q.2
  split at e
  ·rename_i q;exact fl_one z.2.2.v36 q.2
  cases e) (λds r hr y=>by
  rw[show(λy=>inx 60 (lA cU aF 20 G20) y (G0.fl "Wish") (aC aF))=kh bD bC bB from funext jE];exact Ai hr y))
theorem g22:GbOk P w K mg base G22:=gF z (g21 z) 21 (scB (by kernel_rfl)) (bd1 rfl λ_ _ _ _ _ _ _ _=>rfl) z.2.2.v17
theorem g23:GbOk P w K mg base G23:=gF z (g22 z) 22 (scB (by kernel_rfl)) (bd2 rfl λ_ _ _ _ _ _ _ _ _=>rfl) z.2.2.v18
theorem g24:GbOk P w K mg base G24:=gF z (g23 z) 23 (scB (by kernel_rfl)) (bd2 rfl λ_ _ _ _ _ _ _ _ _=>rfl) z.2.2.v19
theorem g25:GbOk P w K mg base G25:=gF z (g24 z) 24 (scB (by kernel_rfl)) (bd1 rfl λ_ _ _ _ _ _ _ _=>rfl) z.2.2.v20
theorem g26:GbOk P w K mg base G26:=gF z (g25 z) 25 (scB (by kernel_rfl)) (bd2 rfl λ_ _ _ _ _ _ _ _ _=>rfl) z.2.2.v21
theorem g27:GbOk P w K mg base G27:=gF z (g26 z) 26 (scB (by kernel_rfl)) (bd1 rfl λ_ _ _ _ _ _ _ _=>rfl) z.2.2.v22
theorem g28:GbOk P w K mg base G28:=gF z (g27 z) 27 (scB (by kernel_rfl)) (bd2 rfl λ_ _ _ _ _ _ _ _ _=>rfl) z.2.2.v23
theorem g29:GbOk P w K mg base G29:=gF z (g28 z) 28 (scB (by kernel_rfl)) (bd1 rfl λ_ _ _ _ _ _ _ _=>rfl) z.2.2.v24
theorem g30:GbOk P w K mg base G30:=by
 have g:GbOk P w K mg base G29:=g29 z;exact g.addF (Fw g (LJ z) (Ck z.2.2.xs z.1 z.2.1) z.1 z.2.1 60 29 jI kI z.2.2.v25)
end
theorem fin {K} (X:K.In h) (hN:h.Ns mainGlobals mg) (hfa:mg "law"=some (.ref fa)) (T:Tx K):
  ∃fd:FuncData,(∀ (s:Shared) (v:Value),BindsTo s fd ⟨[v],[]⟩ [("script",v)])/\∀base:Heap,K.In base->base.Ns mainGlobals mg->FnOk P w K mg base CX0 31 fa fd ["script"] (spL K):=
 Fh 60 30 X hN hfa AC CI T.v26 (λbase KB hB=>g30 ⟨KB,hB,T⟩) JN
end K16
open PySem PySem.W PyProof.Rows
set_option maxRecDepth 100000 in
set_option maxHeartbeats 0 in
theorem PySem.Challenge.cw_pocketmill_k29_codes_needed_holds : PySem.Challenge.rw_pocketmill_k29_codes_needed.Holds := by
  refine holds_law (by kernel_rfl) fun said=>?_
  refine holds_open (q:=K16.Q) (loose:=[]) (Xt:=K16.XT) (XP:=XL K16.Q []) (Yf:=Hook.obs (kHook K16.KT K16.adr K16.adr_ok)) (Ya:=Hook.val (kHook K16.KT K16.adr K16.adr_ok)) (YP:=Hook.says (kHook K16.KT K16.adr K16.adr_ok)) (N:=K16.NN) K16.t_left (Hook.of _) (Hook.keeps _) (fun s e=>xl_of s (Bool.and_eq_true_iff.mp e).1) XL.keeps (by rfl) (by rfl) (by rfl) (fun s e=>recFacts_of (Bool.and_eq_true_iff.mp e).2) (by rfl) (by first | assumption | decide +kernel) (by decide +kernel) ⟨rfl,rfl,rfl,rfl,rfl,by decide +kernel⟩ ?hw ?hc
  case hw=>w_witness2
  case hc =>
  refine L2.walkL (l:=PySem.Challenge.rw_pocketmill_k29_codes_needed) (k:=31) rfl rfl ⟨rfl,by decide,by decide⟩ (K:=K16.KK) (fun w h σ=>(L2.cons_in (by kernel_rfl) (PySem.W.kIn_of σ)).1) (fun w h σ=>L2.tabs_of (c0:=202) rfl (by kernel_rfl) (L2.cons_in (by kernel_rfl) (PySem.W.kIn_of σ)).1 (L2.cons_in (by kernel_rfl) (PySem.W.kIn_of σ)).2 (by kernel_rfl)) ?F
  case F =>
  intro w mg fa h KX G hmg
  exact K16.fin KX G hmg (K16.tx w.params)
#print axioms PySem.Challenge.cw_pocketmill_k29_codes_needed_holds
