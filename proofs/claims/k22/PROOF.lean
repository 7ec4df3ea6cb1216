import PyProof.Rows.All
import Wide.All
import OpenK.AllK
import Wide.FinOn
import Lean
import PyProof.EqAt
import PyProof.EqKinds
import PyProof.TupleCall
import PySem.Challenge.RW_pocketmill_k22_least_plans
set_option compiler.extract_closed false
set_option genSizeOf false
set_option bootstrap.genMatcherCode false
set_option Elab.async false
set_option linter.all false
set_option maxRecDepth 100000
open Lean Parser.Tactic in
local macro_rules|`(tactic|let⟨$a,*⟩:=$e)=>do
 let p<-(<-`(⟨$a,*⟩)).raw.rewriteBottomUpM fun s=>do match s with
  |`(⟨$a,*⟩)=>let b<-a.getElems.mapM fun x=>`(rcasesPatLo|$(⟨x⟩):rcasesPat);`(rcasesPat|⟨$b,*⟩)
  |`(_)=>`(rcasesPat|_)
  |_=>if s.isIdent then `(rcasesPat|$(⟨s⟩):ident) else pure s
 `(tactic|obtain $(⟨p⟩):rcasesPat:=$e)
local macro_rules|`(!$x)=>`(some $x)
open Lean Parser.Command in
local macro_rules|`($m:declModifiers def%$t $i $s:optDeclSig $v:declVal)=>do
 unless t.getTrailingSize==1 do Macro.throwUnsupported
 return mkNode ``declaration #[m,mkNode ``«theorem» #[mkAtom "theorem",i,mkNode ``declSig #[s.raw[0],s.raw[1][0]],v]]
set_option hygiene false
local macro_rules|`(!1)=>`(by omega)
local macro_rules|`(!2)=>`(by kernel_rfl)
local macro_rules|`(!3)=>`(ps.drop t)
local macro_rules|`(!4)=>`(model X.prog X.w)
local macro_rules|`(!5)=>`(by decide)
local macro_rules|`(!6)=>`(model prog w)
local macro_rules|`(!7)=>`(x==("__debug__":Str))
local macro_rules|`(!8)=>`(r.map λ(k:Nat)=>D.int (k:Int))
local macro_rules|`(!9)=>`(.ListComp elt [⟨tg,iter,ifs,0⟩] scope pos)
local macro_rules|`(!10)=>`(fin_bl I q (by simp))
local macro_rules|`(!11)=>`(cxC X scope C s H fp)
local macro_rules|`(!12)=>`(x==("__classdict__":Str))
local macro_rules|`(!13)=>`(s.heap.objs.size+1)
local macro_rules|`(!14)=>`(evX_lfs (d:=.lst []) (ds:=[]) (by simp) rfl (by simp) rfl)
local macro_rules|`(!15)=>`(backTo pos (starEach es X.env))
local macro_rules|`(!16)=>`(List.range n)
local macro_rules|`(!17)=>`(.Call (.Name x p) (e::es) [] pos)
local macro_rules|`(!18)=>`(.Name x px)
local macro_rules|`(!19)=>`(by decide+kernel)
local macro_rules|`(!20)=>`(x1 (va 4))
set_option hygiene true
open List (length_map size_toArray getElem?_map getElem?_eq_getElem mem_cons_self mem_cons_of_mem mem_append_right length_append mem_of_getElem? length_range getElem?_append_left mem_singleton length_cons mem_append getElem?_append_right mem_cons mem_append_left)
open Option (map_some)
open PySem.W (nsIn findIn Frag)
open Bool (and_eq_true)
open Nat (lt_of_lt_of_le le_refl lt_of_le_of_lt)
namespace L2
open PySem
def  lamTabs:List (Addr×(Pos×Str)):=[(262,(⟨148,31,148,74⟩,"as_they_come.<locals>.<lambda>"))]
end L2
set_option maxHeartbeats 4000000
noncomputable section
namespace L2
open PySem PySem.Spec PyProof.Rows
abbrev _root_.Of:=Option Int
abbrev _root_.Od:=List Expr
abbrev _root_.Ob:=Array Value
abbrev _root_.Oa:=Addr->Bool
abbrev _root_.N9:=List Int
abbrev _root_.N8:=List Str
abbrev _root_.N7:=List Nat
abbrev _root_.N6:=Option Value
abbrev _root_.N5:=List Value
abbrev _root_.N4:=Value->Shared->Prop
abbrev _root_.N1:=List (Addr×Obj)
abbrev _root_.OG:=@wpAny_mono
abbrev _root_.OF:=@le_refl
abbrev _root_.OE:=@mem_of_getElem?
abbrev _root_.OD:=@List.mem_range
abbrev _root_.OC:=@Nat.le_of_lt
abbrev _root_.OB:=@Nat.lt_irrefl
abbrev _root_.OA:=@mem_append_right
abbrev _root_.Oz:=@mem_append_left
abbrev _root_.Oy:=@wpAny_of_eq
abbrev _root_.Ox:=@List.mem_map
abbrev _root_.Ow:=@Nat.ne_of_lt
abbrev _root_.Ov:=@Nat.le_trans
abbrev _root_.Ou:=@lt_of_le_of_lt
abbrev _root_.Ot:=@lt_of_lt_of_le
abbrev _root_.Oq:=@of_decide_eq_true
abbrev _root_.Op:=@mem_cons_of_mem
abbrev _root_.Oo:=@mem_cons_self
abbrev _root_.On:=@List.getElem?_eq_some_iff
abbrev _root_.Om:=@Bool.false_ne_true
abbrev _root_.Ol:=@Heap.get?_push_size
abbrev _root_.Oj:=@Heap.lt_size
abbrev _root_.Oi:=@wpAny_pure
abbrev _root_.Oh:=@Heap.get?_push_of_some
abbrev _root_.Og:=@wpAny_bind
abbrev Key:=Sum Int Str
noncomputable def  pC:Key->Value->Bool
 |.inl k,v=>Value.isInt k v
 |.inr x,v=>Value.isStrOf x v
noncomputable def  L6 (w:World):Key->Int
 |.inl k=>hashInt k
 |.inr x=>hashStr w x
def keyIs_shape:∀ {k:Key} {v:Value},pC k v=true->(∃i t,k=Sum.inl i/\v=Value.int i t)\/(∃x t,k=Sum.inr x/\v=Value.str x t)
 |.inl i,v,h=>by
  let⟨t,e⟩:=Value.isInt_shape h;exact .inl ⟨i,t,rfl,e⟩
 |.inr x,v,h=>by
  let⟨t,e⟩:=Value.isStrOf_shape h;exact .inr ⟨x,t,rfl,e⟩
def xz (i:Int) (t:Tok):pC (.inl i) (.int i t)=true:=by simp[pC,Value.isInt]
def xA (x:Str) (t:Tok):pC (.inr x) (.str x t)=true:=by simp[pC,Value.isStrOf]
def FS (a b:Int):decide ((Sum.inl a:Key)=Sum.inl b)=(a==b):=by grind
def FT (a b:Str):decide ((Sum.inr a:Key)=Sum.inr b)=decide (a=b):=by simp
def FU (a:Int) (b:Str):decide ((Sum.inl a:Key)=Sum.inr b)=false:=decide_eq_false (λq=>nomatch q)
def FV (a:Str) (b:Int):decide ((Sum.inr a:Key)=Sum.inl b)=false:=decide_eq_false (λq=>nomatch q)
def  dC (prog:Program) (w:World):PySem.KeyKind prog w Key where
 is:=pC
 hash:=L6 w
 inj:=λv a b ha hb=>by
  rcases keyIs_shape ha with⟨i,t,rfl,rfl⟩|⟨x,t,rfl,rfl⟩
  .rcases keyIs_shape hb with⟨j,u,rfl,e⟩|⟨y,u,rfl,e⟩
   .injection e with e1 _;rw[e1]
   .exact nomatch e
  .rcases keyIs_shape hb with⟨j,u,rfl,e⟩|⟨y,u,rfl,e⟩
   .exact nomatch e
   .injection e with e1 _;rw[e1]
 byValue:=λk v h=>by
  rcases keyIs_shape h with⟨i,t,rfl,rfl⟩|⟨x,t,rfl,rfl⟩<;>rfl
 pyHash:=λhv h=>by
  rcases keyIs_shape hv with⟨i,t,rfl,rfl⟩|⟨x,t,rfl,rfl⟩
  .exact wpAny_pyHash_int h
  .exact wpAny_pyHash_str h
 eqBool:=λhu hv h=>by
  rcases keyIs_shape hu with⟨i,t,rfl,rfl⟩|⟨x,t,rfl,rfl⟩
  .rcases keyIs_shape hv with⟨j,u,rfl,rfl⟩|⟨y,u,rfl,rfl⟩
   .rw[FS]at h;exact wpAny_eqBool_int h
   .rw[FU]at h;exact SeqAt.EqAt.int_str i t y u _ _ _ _ h
  .rcases keyIs_shape hv with⟨j,u,rfl,rfl⟩|⟨y,u,rfl,rfl⟩
   .rw[FV]at h;exact SeqAt.EqAt.str_int x t j u _ _ _ _ h
   .rw[FT]at h;exact wpAny_eqBool_str h
 «strs»:=λk x t v h=>by
  rcases keyIs_shape h with⟨i,u,rfl,e⟩|⟨y,u,rfl,e⟩
  .exact nomatch e
  .injection e with e1 _;subst e1;cases v<;>rfl
def sf (prog:Program) (w:World) (i:Int) (t:Tok):(dC prog w).is (.inl i) (.int i t)=true:=xz i t
def sg (prog:Program) (w:World) (x:Str) (t:Tok):(dC prog w).is (.inr x) (.str x t)=true:=xA x t
inductive V where
 |non|bl (b:Bool)|int (i:Int)|str (x:Str)|byt (b:Array UInt8)|flt (b:UInt64)|ref (a:Addr)|ty (n:String)
 deriving DecidableEq
def  RelV:V->Value->Prop
 |.non,u=>u=Value.none
 |.bl b,u=>u=Value.bool b
 |.int i,u=>∃t,u=Value.int i t
 |.str x,u=>∃t,u=Value.str x t
 |.byt b,u=>∃t,u=Value.bytes b t
 |.flt b,u=>∃t,u=Value.float b t
 |.ref a,u=>u=Value.ref a
 |.ty n,u=>u=Value.type n
abbrev Vals:List V->N5->Prop:=Paired RelV
def Vals.length (r:Vals xs us):xs.length=us.length:=Paired.length r
def Vals.get:∀ {xs:List V} {us:N5} {i:Nat} {x:V},Vals xs us->xs[i]?=!x->∃u,us[i]?=!u/\RelV x u
 |_,_,_,_,.nil,e=>by simp at e
 |_,_,0,_,.cons r _,e=>by simp at e;subst e;exact⟨_,rfl,r⟩
 |_,_,i+1,x,.cons _ t,e=>by
  let⟨u,h1,h2⟩:=Vals.get (i:=i) (x:=x) t (by simpa using e);exact⟨u,by simpa using h1,h2⟩
def Vals.set (r:RelV x u):∀ {xs:List V} {us:N5} (i:Nat),Vals xs us->Vals (xs.set i x) (us.set i u)
 |_,_,_,.nil=>.nil
 |_,_,0,.cons _ t=>.cons r t
 |_,_,i+1,.cons q t=>.cons q (Vals.set r i t)
def Vals.append:∀ {xs ys:List V} {us ws:N5},Vals xs us->Vals ys ws->Vals (xs++ys) (us++ws)
 |_,_,_,_,.nil,s=>s
 |_,_,_,_,.cons r t,s=>.cons r (Vals.append t s)
def Vals.take:∀ {xs:List V} {us:N5} (n:Nat),Vals xs us->Vals (xs.take n) (us.take n)
 |_,_,0,_=>.nil
 |_,_,_+1,.nil=>.nil
 |_,_,n+1,.cons r t=>.cons r (Vals.take n t)
def Vals.drop:∀ {xs:List V} {us:N5} (n:Nat),Vals xs us->Vals (xs.drop n) (us.drop n)
 |_,_,0,r=>r
 |_,_,_+1,.nil=>.nil
 |_,_,n+1,.cons _ t=>Vals.drop n t
def  RelO:Option V->N6->Prop
 |some v,!u=>RelV v u
 |none,none=>True
 |_,_=>False
def  KV {κ:Type}:List (κ×V)->List (κ×Value)->Prop:=Paired λ(p:κ×V) (q:κ×Value)=>p.1=q.1/\RelV p.2 q.2
noncomputable def  kV:Key->V
 |.inl i=>.int i
 |.inr x=>.str x
inductive HO where
 |lst (xs:List V)
 |tup (xs:List V)
 |dK (kvs:List (Key×V))|dT (kvs:List (List Key×V))
 |set (S:Int->Bool) (n:Nat)
 |ins (C dx:Addr) (fs:List (Str×V))
 |own (x:Addr)
 |xd (fs:List (Str×V))
 |met (f x:Addr)
 |rng (lo hi:Int)
 |frz (o:Obj) (u:HO)
 |tbl (ps:Ob)
 |cod (ps:Ob) (pos:Pos) (q:Str)
 |ext (φ:Heap->Prop)
abbrev Hp:=Addr->Option HO
noncomputable def  upd (H:Hp) (a:Addr) (o:HO):Hp:=λb=>if b=a then !o else H b
def ai:upd H a o a=!o:=by unfold upd;rw[if_pos rfl]
def ae (h:b≠a):upd H a o b=H b:=by unfold upd;rw[if_neg h]
def CG:upd (upd H a o) a u=upd H a u:=by
 funext b;unfold upd;split<;>rfl
def ak {H:Hp} (h:H a=!o) (h':H b=none):a≠b:=by
 intro e;subst e;rw[h]at h';cases h'
section
variable (P:Program) (w:World)
def  ObjOk (H:Hp) (h:Heap) (a:Addr):HO->Prop
 |.lst xs=>xs.length<=sizeLine/\∃ (its:N5) (n:Nat),Vals xs its/\h.get? a=some {cls:=.type "list",data:=.seq its.toArray n}
 |.tup xs=>xs.length<=sizeLine/\∃its:N5,Vals xs its/\IsTup h a its.toArray
 |.dK kvs=>kvs.length<=sizeLine/\(a==sysModules)=false/\∃vs,KV kvs vs/\h.DictOf (dC P w) a vs
 |.dT kvs=>kvs.length<=sizeLine/\(a==sysModules)=false/\∃xs:List (List Key×Addr×Value),
  Paired (λ(p:List Key×V) (q:List Key×Addr×Value)=>p.1=q.1/\H q.2.1=!(.tup (p.1.map kV))/\RelV p.2 q.2.2) kvs xs/\
  ∃o es ep,h.get? a=!o/\o.ExactDict/\o.data=.dict es ep/\es.toList=xs.map (entryOfKey (tupleKind (dC P w)))/\(xs.map (·.1)).Nodup
 |.set S n=>h.SetOf (intKind P w) a S n
 |.ins C dx fs=>H dx=!(.own a)/\fs.length<=1000/\dx≠a/\h.get? a=!(PySem.W.instObj C dx)/\
  ∃mA,h.Ns1 dx mA/\(∀f,RelO (fs.lookup f) (mA f))/\PySem.Within mA (fs.map (·.1))
 |.own _=>∃o,h.get? a=!o
 |.xd fs=>∃mA,h.Ns1 a mA/\∀f,RelO (fs.lookup f) (mA f)
 |.rng lo hi=>∃t u v,h.get? a=some {cls:=.type "range",data:=.fields #[.int lo t,.int hi u,.int 1 v]}
 |.frz o u=>h.get? a=!o/\ObjOk H h a u
 |.tbl ps=>h.get? a=some {cls:=.none,data:=.fields ps}
 |.cod ps pos q=>h.get? a=some {cls:=.none,data:=.fields ps}\/∃c oc vs t,h.get? a=some {cls:=.none,data:=.fields (ps++#[rawInt pos.line,rawInt pos.col,.ref c])}/\H c=!(.frz oc (.own a))/\oc.data=.fields vs/\vs[1]?=!(.str q t)
 |.met f x=>h.get? a=!(PySem.W.methodObj (.ref f) (.ref x))
 |.ext φ=>φ h/\(∃o,h.get? a=!o)/\∀h1 h2:Heap,φ h1->(∀o,h1.get? a=!o->h2.get? a=!o)->φ h2
def  HOk (H:Hp) (h:Heap):Prop:=∀a o,H a=!o->ObjOk P w H h a o
end
section
variable {P:Program} {w:World} {H H':Hp} {h h':Heap} {a:Addr} {o:HO}
def ObjOk.lt (x:ObjOk P w H h a o):a<h.objs.size:=by
 cases o with
 |lst xs=>let⟨_,_,_,_,e⟩:=x;exact Oj e
 |tup xs=>let⟨_,_,_,p⟩:=x;exact p.lt
 |dK kvs=>let⟨_,_,_,_,o,_,_,e,_⟩:=x;exact Oj e
 |dT kvs=>let⟨_,_,_,_,o,_,_,e,_⟩:=x;exact Oj e
 |set S n=>let⟨o,_,_,_,e,_⟩:=x;exact Oj e
 |ins C dx fs=>let⟨_,_,_,e,_⟩:=x;exact Oj e
 |own y=>let⟨_,e⟩:=x;exact Oj e
 |xd fs=>let⟨_,⟨_,_,_,e,_⟩,_⟩:=x;exact Oj e
 |rng lo hi=>let⟨_,_,_,e⟩:=x;exact Oj e
 |frz ob u=>let⟨e,_⟩:=x;exact Oj e
 |tbl ps=>exact Oj (x)
 |cod ps pos q=>
  rcases x with e|⟨_,_,_,_,e,_⟩
  .exact Oj e
  .exact Oj e
 |met f y=>exact Oj (x)
 |ext φ=>let⟨_,⟨_,e⟩,_⟩:=x;exact Oj e
def Paired.mapP:∀ {l₁:List α} {l₂:List β},Paired F l₁ l₂->(∀a b,F a b->G a b)->Paired G l₁ l₂
 |_,_,.nil,_=>.nil
 |_,_,.cons r t,f=>.cons (f _ _ r) (Paired.mapP t f)
def ObjOk.stay (x:ObjOk P w H h a o) (k:∀b u,(b=a\/H b=!(.own a))->h.get? b=!u->h'.get? b=!u)
  (ho:∀b,H b=!(.own a)->H' b=!(.own a)) (ht:∀b xs,H b=!(.tup xs)->H' b=!(.tup xs)) (hz:∀b o' u',H b=!(.frz o' u')->H' b=!(.frz o' u'):=by intro _ _ _ q;exact q):ObjOk P w H' h' a o:=by
 induction o with
 |lst xs=>let⟨z,its,n,r,e⟩:=x;exact⟨z,its,n,r,k _ _ (.inl rfl) e⟩
 |tup xs=>let⟨z,its,r,ob,e,c⟩:=x;exact⟨z,its,r,ob,k _ _ (.inl rfl) e,c⟩
 |dK kvs=>let⟨z,y,vs,r,ob,es,ep,e,c⟩:=x;exact⟨z,y,vs,r,ob,es,ep,k _ _ (.inl rfl) e,c⟩
 |dT kvs=>
  let⟨z,y,xs,r,ob,es,ep,e,c⟩:=x;exact⟨z,y,xs,Paired.mapP r λp q z=>⟨z.1,ht _ _ z.2.1,z.2.2⟩,ob,es,ep,k _ _ (.inl rfl) e,c⟩
 |set S n=>let⟨ob,es,ep,t,e,c⟩:=x;exact⟨ob,es,ep,t,k _ _ (.inl rfl) e,c⟩
 |ins C dx fs=>
  let⟨d,z,ne,e,mA,⟨od,es,ep,e2,c⟩,r⟩:=x;exact⟨ho _ d,z,ne,k _ _ (.inl rfl) e,mA,⟨od,es,ep,k _ _ (.inr d) e2,c⟩,r⟩
 |own y=>let⟨ob,e⟩:=x;exact⟨ob,k _ _ (.inl rfl) e⟩
 |xd fs=>let⟨mA,⟨od,es,ep,e,c⟩,r⟩:=x;exact⟨mA,⟨od,es,ep,k _ _ (.inl rfl) e,c⟩,r⟩
 |rng lo hi=>let⟨t,u,v,e⟩:=x;exact⟨t,u,v,k _ _ (.inl rfl) e⟩
 |frz ob u ih=>let⟨e,q⟩:=x;exact⟨k _ _ (.inl rfl) e,ih q⟩
 |cod ps pos q=>
  rcases x with e|⟨c,oc,vs,t,e,o1,r⟩
  .exact .inl (k a _ (.inl rfl) e)
  .exact .inr ⟨c,oc,vs,t,k a _ (.inl rfl) e,hz _ _ _ o1,r⟩
 |tbl ps=>
  have e:h.get? a=some {cls:=.none,data:=.fields ps}:=x;exact k a _ (.inl rfl) e
 |met f y=>
  have e:h.get? a=!(PySem.W.methodObj _ _):=x;exact k a _ (.inl rfl) e
 |ext φ=>let⟨p,⟨o,e⟩,st⟩:=x;exact⟨st _ _ p λo q=>k _ _ (.inl rfl) q,⟨o,k _ _ (.inl rfl) e⟩,st⟩
def HOk.lt (x:HOk P w H h) (e:H a=!o):a<h.objs.size:=(x a o e).lt
def HOk.fresh (x:HOk P w H h) (e:h.objs.size<=a):H a=none:=by
 cases q:H a with
 |none=>rfl
 |some u=>exact absurd (Ot (x.lt q) e) (OB _)
def HOk.kept (x:HOk P w H h) (k:∀b u,h.get? b=!u->h'.get? b=!u):HOk P w H h':=λa o e=>
 (x a o e).stay (λb u _ q=>k b u q) (λ_ q=>q) λ_ _ q=>q
def HOk.laid (x:HOk P w H h) (k:∀b u,h.get? b=!u->h'.get? b=!u) (hp:h.objs.size<=a) (new:ObjOk P w (upd H a o) h' a o):HOk P w (upd H a o) h':=λb u e=>by
 have hn:=x.fresh hp;by_cases hb:b=a
 .subst hb;rw[ai]at e;cases e;exact new
 .rw[ae hb]at e;exact(x b u e).stay (λc v _ q=>k c v q) (λc q=>by rw[ae (ak q hn)];exact q) (λc xs q=>by rw[ae (ak q hn)];exact q) λc o' u' q=>by rw[ae (ak q hn)];exact q
end
def  Rd (H:Hp) (a:Addr) (u:HO):Prop:=H a=!u\/∃o,H a=!(.frz o u)
def Rd.ok (r:Rd H a u) (x:HOk P w H h):ObjOk P w H h a u:=by
 rcases r with r|⟨o,r⟩
 .exact x a u r
 .let⟨_,q⟩:=x a _ r;exact q
def  Mut:Option HO->Prop
 |some (.lst _)=>True
 |some (.dK _)=>True
 |some (.dT _)=>True
 |some (.set _ _)=>True
 |some (.ins _ _ _)=>True
 |some (.ext _)=>True
 |_=>False
section
variable {P:Program} {w:World} {H:Hp} {h h':Heap} {x e:Addr} {o':HO}
def HOk.write (ok:HOk P w H h) (mu:Mut (H x)) (he:e=x\/H e=!(.own x)) (k:∀b u,b≠e->h.get? b=!u->h'.get? b=!u) (heo:∃u,h'.get? e=!u)
  (new:ObjOk P w (upd H x o') h' x o'):HOk P w (upd H x o') h':=λb u q=>by
 have nown:∀c y,H c=!(.own y)->c≠x:=λc y r z=>by subst z;rw[r]at mu;exact mu
 have ntup:∀c xs,H c=!(.tup xs)->c≠x:=λc xs r z=>by subst z;rw[r]at mu;exact mu
 by_cases hb:b=x
 .subst hb;rw[ai]at q;cases q;exact new
 .rw[ae hb]at q;by_cases hbe:b=e
  .have q':H b=!(.own x):=by
    rcases he with z|z
    .exact absurd (hbe.trans z) hb
    .rw[hbe];exact z
   rw[q]at q';cases q';let⟨v,hv⟩:=heo;exact⟨v,by rw[hbe];exact hv⟩
  .refine(ok b u q).stay (λc v hc r=>k c v ?_ r) (λc r=>by rw[ae (nown c b r)];exact r) (λc xs r=>by rw[ae (ntup c xs r)];exact r) λc o' u' r=>by rw[ae (λz=>by subst z;rw[r]at mu;exact mu)];exact r
   rcases hc with rfl|hc
   .exact hbe
   .rintro rfl;rcases he with z|z
    .exact nown c b hc z
    .rw[hc]at z;cases z;exact hb rfl
end
def  Still:HO->Prop
 |.frz _ _=>True
 |.cod _ _ _=>True
 |_=>False
def Still.nm (h:Still u):¬Mut (!u):=by
 cases u<;>first|exact h.elim|exactλz=>z
def  GT (H:Hp):Prop:=∀b z,lamTabs.lookup b=!z->H b=!(.cod #[] z.1 z.2)
structure Un (fs ex:List Addr) (H H':Hp) (h h':Heap):Prop where
 keep:∀b o,h.get? b=!o->H b=none->b ∉ fs->b ∉ ex->h'.get? b=!o
 slot:∀b o,h.get? b=!o->H b=none->b∈fs->b ∉ ex->∃sl,h'.get? b=some {o with slots:=sl}
 free:∀b o,h.get? b=!o->H b=none->b ∉ ex->H' b=none
 there:∀b o,h.get? b=!o->b ∉ ex->∃o',h'.get? b=!o'
 tups:∀b xs,H b=!(.tup xs)->H' b=!(.tup xs)
 frzs:∀b o,Still o->H b=!o->H' b=!o
 tbls:∀b ps,H b=!(.tbl ps)->∃more,H' b=!(.tbl (ps++more))
section
variable {fs fs' ex ex':List Addr} {H H1 H2:Hp} {h h1 h2 h':Heap} {a x e:Addr} {o:HO}
def Un.any (u:Un fs ex H H1 h h1) (q:h.get? b=!ob) (n:H b=none) (hx:b ∉ ex):∃sl,h1.get? b=some {ob with slots:=sl}:=by
 by_cases hb:b∈fs
 .exact u.slot b ob q n hb hx
 .exact⟨ob.slots,u.keep b ob q n hb hx⟩
def Un.kept (k:∀b u,h.get? b=!u->h'.get? b=!u):Un fs ex H H h h':=
 ⟨λb ob q _ _ _=>k b ob q,λb ob q _ _ _=>⟨ob.slots,k b ob q⟩,λ_ _ _ n _=>n,λb ob q _=>⟨ob,k b ob q⟩,λ_ _ q=>q,λ_ _ _ q=>q,λ_ ps q=>⟨#[],by rw[q];simp⟩⟩
def Un.refl:Un fs ex H H h h:=Un.kept λ_ _ q=>q
def Un.laid (k:∀b u,h.get? b=!u->h'.get? b=!u) (hp:h.objs.size<=a) (hn:H a=none):Un fs ex H (upd H a o) h h' where
 keep:=λb u q _ _ _=>k b u q
 slot:=λb u q _ _ _=>⟨u.slots,k b u q⟩
 free:=λb u q n _=>by rw[ae (Nat.ne_of_lt (lt_of_lt_of_le (Heap.lt_size q) hp))];exact n
 there:=λb u q _=>⟨u,k b u q⟩
 tups:=λb xs q=>by rw[ae (ak q hn)];exact q
 frzs:=λb u xs q=>by rw[ae (ak q hn)];exact q
 tbls:=λb ps q=>⟨#[],by rw[ae (ak q hn),q];simp⟩
def Un.write (mu:Mut (H x)) (he:e=x\/H e=!(.own x)) (k:∀b u,b≠e->h.get? b=!u->h'.get? b=!u) (heo:∃u,h'.get? e=!u):Un fs ex H (upd H x o) h h':=by
 have hx:∀b,H b=none->b≠x:=λb n z=>by subst z;rw[n]at mu;exact mu
 have hb:∀b,H b=none->b≠e:=λb n z=>by
  subst z;rcases he with r|r
  .exact hx b n r
  .rw[n]at r;cases r
 have hm:∀b u,H b=!u->¬Mut (!u)->b≠x:=λb u q nm z=>by subst z;rw[q]at mu;exact nm mu
 refine⟨λb u q n _ _=>k b u (hb b n) q,λb u q n _ _=>⟨u.slots,k b u (hb b n) q⟩,λb u q n _=>by rw[ae (hx b n)];exact n,λb u q _=>?_,
  λb xs q=>by rw[ae (hm b _ q λz=>z)];exact q,λb u xs q=>by rw[ae (hm b _ q xs.nm)];exact q,λb ps q=>⟨#[],by rw[ae (hm b _ q λz=>z),q];simp⟩⟩
 grind
end
noncomputable def  trk (h:Heap) (H:Hp):List Addr:=(List.range h.objs.size).filter λa=>(H a).isSome
def  qu (h:Heap) (H:Hp):Heap:=PySem.W.hideAll h (trk h H)
def xB (h:Heap) (H:Hp):(qu h H).objs.size=h.objs.size:=PySem.W.hideAll_size _ _
def yX (e:h.get? b=!o) (n:H b=none):(qu h H).get? b=!o:=
 PySem.W.hideAll_get _ e λhm=>by
  have q:=(List.mem_filter.mp hm).2;rw[n]at q;simp at q
def CH (e:(qu h H).get? b=!o):h.get? b=!o/\H b=none:=by
 have e':=PySem.W.of_hideAll _ e;refine⟨e',?_⟩;cases q:H b with
 |none=>rfl
 |some x=>
  have hm:b∈trk h H:=List.mem_filter.mpr ⟨OD.mpr (Oj e'),by simp[q]⟩;have z:(qu h H).get? b=none:=PySem.W.hideAll_none _ hm;rw[z]at e;cases e
noncomputable def  CI (g h:Heap) (L:Addr):N1:=(List.range h.objs.size).filterMap λa=>if a=L\/(g.get? a).isSome=true then none else(h.get? a).map λo=>(a,o)
def  rest (g h:Heap) (L d:Addr):N1:=(CI g h L).filter λp=>decide (p.1≠d)
structure Mod (K:Frag) (mg:Str->N6) (base:Heap):Prop where
 kin:K.In base
 glob:base.Ns mainGlobals mg
 blt:∃mb,base.Ns builtinsNs mb/\∀x:Str,x≠"__name__" ->mb x=bootBuiltins x
 nolimit:base.NoLimit
structure Cx where
 prog:Program
 w:World
 K:Frag
 mg:Str->N6
 base:Heap
 A:Around
 N:N8
 s₀:Shared
 H₀:Hp
 env:Env
 outer:List Env
 stack:List Env
 ex:List Addr
 fn:Str->Bool
 calm:Bool
 pn:N1
 xe:N4
noncomputable def  frs (l:List Env):List Addr:=l.filterMap (·.frame)
abbrev Cx.fs (X:Cx):List Addr:=frs X.outer
def  Vis (sc:Scope) (x:Str):Prop:=sc.names.lookup x=some .local\/sc.names.lookup x=some .cell\/sc.names.lookup x=some .free
def  Loc (sc:Scope) (x:Str):Prop:=sc.names.lookup x=some .local\/sc.names.lookup x=some .cell
def  L7 (env:Env) (h:Heap) (m:Str->N6) (x:Str) (u:Value):Prop:=
 (env.kindOf x=some .local/\m x=!u)\/((env.kindOf x=some .cell\/env.kindOf x=some .free)/\∃c,env.cells.lookup x=!c/\h.IsCell c (!u))
structure Cx.Ok (X:Cx):Prop where
 mod:Mod X.K X.mg X.base
 kind:X.env.scope.kind=.function
 glob:X.env.globals=mainGlobals
 blt:X.env.builtins=builtinsNs
 above:X.s₀.heap.objs.size<=X.env.locals
 inj:∀x y c,X.env.cells.lookup x=!c->X.env.cells.lookup y=!c->x=y
 has:∀x,(X.env.kindOf x=some .cell\/X.env.kindOf x=some .free)->∃c,X.env.cells.lookup x=!c
 cab:∀x c,X.fn x=true->X.env.cells.lookup x=!c->X.s₀.heap.objs.size<=c
 hd:X.calm=true->X.A.handled=none
 frames:X.A.frames=!X.stack
 stk:X.stack=X.outer\/(X.stack=X.env::X.outer/\X.env.frame=!X.env.locals)
 exf:∀b∈X.ex,b≠X.env.locals/\∀x c,X.env.cells.lookup x=!c->c≠b
 bs:∀b o,X.base.get? b=!o->X.s₀.heap.get? b=!o/\X.H₀ b=none
 bsz:X.base.objs.size<=X.s₀.heap.objs.size
 noex:∀b o,X.base.get? b=!o->b ∉ X.ex
 exfs:∀b∈X.ex,b ∉ X.fs
 funs:X.s₀.heap.FunFrames X.base X.outer
 frf:(∀b∈X.fs,X.H₀ b=none)/\GT X.H₀
structure Inv (X:Cx) (pins:N1) (σ:List (Option V)) (H:Hp) (s:Shared):Prop where
 ok:X.Ok
 os:s.os=X.s₀.os
 bare:AllBare s.gens
 base:Un X.fs X.ex X.H₀ H X.s₀.heap s.heap
 loc:∃m,s.heap.Ns X.env.locals m/\∀ (i:Nat) (x:Str) (v:V),X.N[i]?=!x->σ[i]?=!(!v)->Vis X.env.scope x->∃u,RelV v u/\L7 X.env s.heap m x u
 cell:∀x c,X.env.cells.lookup x=!c->∃v,s.heap.IsCell c v
 free:H X.env.locals=none
 freeC:∀x c,X.env.cells.lookup x=!c->H c=none
 pin:∀p∈X.pn++pins,s.heap.get? p.1=!p.2/\H p.1=none/\p.1≠X.env.locals/\p.1 ∉ X.fs/\∀v,p.2.data≠.cell v
 hok:HOk X.prog X.w H s.heap
 len:σ.length=X.N.length
section
variable {X:Cx} {pins:N1} {σ:List (Option V)} {H H':Hp} {s:Shared} {h':Heap}
def Cx.Ok.nofr (ok:X.Ok) (e:X.base.get? b=!o):b ∉ X.fs:=λhb=>by
 have:=(ok.funs.mem hb).1;grind
def Inv.bs (I:Inv X pins σ H s):∀b o,X.base.get? b=!o->s.heap.get? b=!o/\H b=none:=λb o e=>
 ⟨I.base.keep b o (I.ok.bs b o e).1 (I.ok.bs b o e).2 (I.ok.nofr e) (I.ok.noex b o e),I.base.free b o (I.ok.bs b o e).1 (I.ok.bs b o e).2 (I.ok.noex b o e)⟩
def Inv.bk (I:Inv X pins σ H s):∀b o,X.base.get? b=!o->s.heap.get? b=!o:=λb o e=>(I.bs b o e).1
def Inv.mod (I:Inv X pins σ H s):Mod X.K X.mg X.base:=I.ok.mod
def Inv.kIn (I:Inv X pins σ H s):X.K.In s.heap:=I.ok.mod.kin.keeps I.bk
def Inv.nolimit (I:Inv X pins σ H s):s.heap.NoLimit:=I.ok.mod.nolimit.keeps I.bk
def Inv.lt (I:Inv X pins σ H s):X.env.locals<s.heap.objs.size:=let⟨_,hn,_⟩:=I.loc;hn.lt
def Inv.sz (I:Inv X pins σ H s):X.s₀.heap.objs.size<=s.heap.objs.size:=Ov I.ok.above (OC I.lt)
def Inv.nofs (I:Inv X pins σ H s) {a:Addr} (h:s.heap.objs.size<=a):a ∉ X.fs:=λhb=>by
 let⟨_,o,ho,_⟩:=I.ok.funs.mem hb;exact absurd (Ot (Oj ho) (Ov I.sz h)) (OB _)
def Inv.cne (I:Inv X pins σ H s):∀x c,X.env.cells.lookup x=!c->c≠X.env.locals:=λx c e z=>by
 let⟨v,o,ho,hd⟩:=I.cell x c e;let⟨m,⟨o',es,ep,ho',hd',_⟩,_⟩:=I.loc;grind
def Inv.funs (I:Inv X pins σ H s):s.heap.FunFrames X.base X.outer:=by
 have all:∀ (l:List Env),(∀b∈frs l,b∈X.fs)->X.s₀.heap.FunFrames X.base l->s.heap.FunFrames X.base l:=by
  intro l;induction l with
  |nil=>intro _ _;trivial
  |cons env r ih=>
   intro hs hl;let⟨hk,⟨L,o,hf,hn,ho,hd⟩,hr⟩:=hl;have hL:=hs L (by unfold frs;rw[List.filterMap_cons,hf];exact Oo);let⟨sl,e⟩:=I.base.slot L o ho (I.ok.frf.1 L hL) hL λz=>I.ok.exfs L z hL;exact⟨hk,⟨L,_,hf,hn,e,hd⟩,ih (λb hb=>hs b (by unfold frs;rw[List.filterMap_cons,hf];exact Op _ hb)) hr⟩
 exact all X.outer (λ_ hb=>hb) I.ok.funs
def Inv.stack (I:Inv X pins σ H s):s.heap.FunFrames X.base X.stack:=by
 rcases I.ok.stk with e|⟨e,hf⟩
 .rw[e];exact I.funs
 .rw[e];let⟨m,hn,_⟩:=I.loc;refine .cons (by rw[I.ok.kind];decide) hf hn ?_ I.funs;exact Heap.get?_none_of_le (Ov I.ok.bsz I.ok.above)
def Inv.stkSub (I:Inv X pins σ H s):∀b∈frs X.stack,b∈X.env.locals::X.fs:=λb hb=>by
 rcases I.ok.stk with e|⟨e,hf⟩
 .rw[e]at hb;exact Op _ hb
 .rw[e]at hb;unfold frs at hb;rw[List.filterMap_cons,hf]at hb;exact hb
def Inv.stkFree (I:Inv X pins σ H s):∀b∈frs X.stack,H b=none:=λb hb=>by
 rcases mem_cons.mp (I.stkSub b hb)with e|hb
 .rw[e];exact I.free
 .let⟨_,o,ho,_⟩:=I.ok.funs.mem hb;exact I.base.free b o ho (I.ok.frf.1 b hb) λz=>I.ok.exfs b z hb
def Inv.tab (I:Inv X pins σ H s):GT H:=λb z h=>I.base.frzs b _ True.intro (I.ok.frf.2 b z h)
def Inv.step {ch:List Addr} (I:Inv X pins σ H s) (hch:∀b∈ch,(b∈X.ex\/X.s₀.heap.objs.size<=b)/\b≠X.env.locals/\(∀x c,X.env.cells.lookup x=!c->c≠b)/\∀p∈X.pn++pins,p.1≠b) (keep:∀b o,b≠X.env.locals->b ∉ X.fs->b ∉ ch->s.heap.get? b=!o->H b=none->h'.get? b=!o) (slot:∀b o,b≠X.env.locals->b∈X.fs->b ∉ ch->s.heap.get? b=!o->H b=none->∃sl,h'.get? b=some {o with slots:=sl}) (free:∀b o,b ∉ ch->s.heap.get? b=!o->H b=none->H' b=none) (there:∀b o,b ∉ ch->s.heap.get? b=!o->∃o',h'.get? b=!o') (tups:∀b xs,H b=!(.tup xs)->H' b=!(.tup xs)) (frzs:∀b o,Still o->H b=!o->H' b=!o) (tbls:∀b ps,H b=!(.tbl ps)->∃more,H' b=!(.tbl (ps++more))) (ns:∀m,s.heap.Ns X.env.locals m->h'.Ns X.env.locals m) (hok:HOk X.prog X.w H' h') (hg:AllBare g'):
  Inv X pins σ H' {s with heap:=h',gens:=g',drawn:=d',toks:=t'}:=by
 have neL:∀b o,X.s₀.heap.get? b=!o->b≠X.env.locals:=λb o e=>Ow (Ot (Oj e) I.ok.above)
 have neC:∀b o,X.s₀.heap.get? b=!o->b ∉ X.ex->b ∉ ch:=λb o e hx hb=>by
  rcases(hch b hb).1 with z|z
  .exact hx z
  .exact absurd (Ot (Oj e) z) (OB _)
 have cellK:∀x c,X.env.cells.lookup x=!c->∀v,s.heap.IsCell c v->h'.IsCell c v:=λx c e v ⟨o,ho,hd⟩=>by
  have nch:c ∉ ch:=λz=>(hch c z).2.2.1 x c e rfl;by_cases hc:c∈X.fs
  .let⟨sl,q⟩:=slot c o (I.cne x c e) hc nch ho (I.freeC x c e);exact⟨_,q,hd⟩
  .exact⟨o,keep c o (I.cne x c e) hc nch ho (I.freeC x c e),hd⟩
 refine⟨I.ok,I.os,hg,⟨λb o e n hb hx=>?_,λb o e n hb hx=>?_,λb o e n hx=>?_,λb o e hx=>?_,λb xs e=>tups b xs (I.base.tups b xs e),λb o xs e=>frzs b o xs (I.base.frzs b o xs e),λb ps e=>?_⟩,?_,λx c e=>?_,?_,λx c e=>?_,λp hp=>?_,hok,I.len⟩
 .exact keep b o (neL b o e) hb (neC b o e hx) (I.base.keep b o e n hb hx) (I.base.free b o e n hx)
 .let⟨sl,e1⟩:=I.base.slot b o e n hb hx;let⟨sl',e2⟩:=slot b _ (neL b o e) hb (neC b o e hx) e1 (I.base.free b o e n hx);exact⟨sl',e2⟩
 .let⟨o',e1⟩:=I.base.there b o e hx;exact free b o' (neC b o e hx) e1 (I.base.free b o e n hx)
 .let⟨o',e1⟩:=I.base.there b o e hx;exact there b o' (neC b o e hx) e1
 .let⟨m1,e1⟩:=I.base.tbls b ps e;let⟨m2,e2⟩:=tbls b _ e1;exact⟨m1++m2,by rw[e2,Array.append_assoc]⟩
 .let⟨m,hn,hl⟩:=I.loc;refine⟨m,ns m hn,λi x v e1 e2 e3=>?_⟩;let⟨u,r,l⟩:=hl i x v e1 e2 e3;refine⟨u,r,?_⟩;rcases l with l|⟨k,c,e,z⟩
  .exact .inl l
  .exact .inr ⟨k,c,e,cellK x c e _ z⟩
 .let⟨v,z⟩:=I.cell x c e;exact⟨v,cellK x c e v z⟩
 .let⟨m,⟨o,_,_,ho,_⟩,_⟩:=I.loc;exact free _ o (λz=>(hch _ z).2.1 rfl) ho I.free
 .let⟨v,o,ho,hd⟩:=I.cell x c e;exact free c o (λz=>(hch c z).2.2.1 x c e rfl) ho (I.freeC x c e)
 .let⟨e,n,ne,nf,d⟩:=I.pin p hp;have nch:p.1 ∉ ch:=λz=>(hch p.1 z).2.2.2 p hp rfl;exact⟨keep p.1 p.2 ne nf nch e n,free p.1 p.2 nch e n,ne,nf,d⟩
def Inv.un (I:Inv X pins σ H s) (u:Un X.fs [] H H' s.heap h') (hok:HOk X.prog X.w H' h'):Inv X pins σ H' {s with heap:=h',toks:=t'}:=by
 let⟨m,⟨o,es,ep,ho,r⟩,_⟩:=id I.loc;let⟨sl,hL⟩:=u.any ho I.free (by simp);exact I.step (ch:=[]) (λ_ z=>nomatch z) (λb o _ hb _ e n=>u.keep b o e n hb (by simp)) (λb o _ hb _ e n=>u.slot b o e n hb (by simp)) (λb o _ e n=>u.free b o e n (by simp)) (λb o _ e=>u.there b o e (by simp)) u.tups u.frzs u.tbls (λm' hm=>by
  let⟨o',es',ep',ho',r'⟩:=hm;rw[ho]at ho';cases ho';exact⟨_,es',ep',hL,r'⟩) hok I.bare
def Inv.call (I:Inv X pins σ H s) (u:Un (frs X.stack) ch H H' s.heap h') (hok:HOk X.prog X.w H' h') (hg:AllBare g') (hch:∀b∈ch,(b∈X.ex\/X.s₀.heap.objs.size<=b)/\b≠X.env.locals/\(∀x c,X.env.cells.lookup x=!c->c≠b)/\∀p∈X.pn++pins,p.1≠b):
  Inv X pins σ H' {s with heap:=h',gens:=g',drawn:=d',toks:=t'}:=by
 let⟨m,⟨o,es,ep,ho,r⟩,_⟩:=id I.loc
 let⟨sl,hL⟩:=u.any ho I.free λz=>(hch _ z).2.1 rfl
 exact I.step hch (λb o hL hb hc e n=>u.keep b o e n (λz=>(mem_cons.mp (I.stkSub b z)).elim hL hb) hc) (λb o _ _ hc e n=>u.any e n hc) (λb o hc e n=>u.free b o e n hc) (λb o hc e=>u.there b o e hc) u.tups u.frzs u.tbls (λm' hm=>by
  let⟨o',es',ep',ho',r'⟩:=hm;rw[ho]at ho';cases ho';exact⟨_,es',ep',hL,r'⟩) hok hg
def Inv.turned (I:Inv X pins σ H s) (k:∀b o,b≠it->s.heap.get? b=!o->h'.get? b=!o) (hn:H it=none) (hL:it≠X.env.locals) (h1:it∈X.ex\/X.s₀.heap.objs.size<=it) (h2:∀x c,X.env.cells.lookup x=!c->c≠it) (h3:∀p∈X.pn++pins,p.1≠it):Inv X pins σ H {s with heap:=h',toks:=t'}:=by
 have nit:∀b u,H b=!u->b≠it:=λb u e z=>by rw[z,hn]at e;cases e
 refine I.step (ch:=[it]) (λb hb=>?_) (λb o _ _ hc e _=>k b o (λz=>hc (by simp[z])) e) (λb o _ _ hc e _=>⟨o.slots,k b o (λz=>hc (by simp[z])) e⟩) (λ_ _ _ _ n=>n)
  (λb o hc e=>⟨o,k b o (λz=>hc (by simp[z])) e⟩) (λ_ _ e=>e) (λ_ _ _ e=>e) (λb ps e=>⟨#[],by rw[e];simp⟩) (λm hm=>?_) (λb u e=>?_) I.bare
 .have e:b=it:=by simpa using hb
  subst e;exact⟨h1,hL,h2,h3⟩
 .let⟨o,es,ep,ho,r⟩:=hm;exact⟨o,es,ep,k _ o (Ne.symm hL) ho,r⟩
 .refine(I.hok b u e).stay (λc v hc q=>k c v ?_ q) (λ_ q=>q) λ_ _ q=>q;rcases hc with z|z
  .rw[z];exact nit b u e
  .exact nit c _ z
def Inv.tok (I:Inv X pins σ H s) (t:Nat):Inv X pins σ H {s with toks:=t}:=I.un Un.refl I.hok
def Inv.kept (I:Inv X pins σ H s) (k:∀b u,s.heap.get? b=!u->h'.get? b=!u):Inv X pins σ H {s with heap:=h',toks:=t'}:=I.un (Un.kept k) (I.hok.kept k)
def Inv.laid {a:Addr} (I:Inv X pins σ H s) (k:∀b u,s.heap.get? b=!u->h'.get? b=!u) (hp:s.heap.objs.size<=a) (new:ObjOk X.prog X.w (upd H a o) h' a o):
 Inv X pins σ (upd H a o) {s with heap:=h',toks:=t'}:=I.un (Un.laid k hp (I.hok.fresh hp)) (I.hok.laid k hp new)
def Inv.write (I:Inv X pins σ H s) (mu:Mut (H x)) (he:e=x\/H e=!(.own x)) (k:∀b u,b≠e->s.heap.get? b=!u->h'.get? b=!u) (heo:∃u,h'.get? e=!u) (new:ObjOk X.prog X.w (upd H x o) h' x o):Inv X pins σ (upd H x o) {s with heap:=h',toks:=t'}:=I.un (Un.write mu he k heo) (I.hok.write mu he k heo new)
def Inv.weak (I:Inv X pins σ H s) (hl:σ'.length=σ.length) (w:∀ (i:Nat) v,σ'[i]?=!(!v)->σ[i]?=!(!v)):Inv X pins σ' H s:=
 ⟨I.ok,I.os,I.bare,I.base,let⟨m,hn,hl'⟩:=I.loc;⟨m,hn,λi x v e1 e2 e3=>hl' i x v e1 (w i v e2) e3⟩,I.cell,I.free,I.freeC,I.pin,I.hok,hl.trans I.len⟩
def Inv.pins_of (I:Inv X pins σ H s) (h:∀p∈pins',s.heap.get? p.1=!p.2/\H p.1=none/\p.1≠X.env.locals/\p.1 ∉ X.fs/\∀v,p.2.data≠.cell v):Inv X pins' σ H s:=
 ⟨I.ok,I.os,I.bare,I.base,I.loc,I.cell,I.free,I.freeC,λp hp=>(mem_append.mp hp).elim (λz=>I.pin p (Oz _ z)) (h p),I.hok,I.len⟩
def sj {N:N8} (hN:N.Nodup) {i j:Nat} (a:N[i]?=!x) (b:N[j]?=!x):i=j:=by
 let⟨h1,e1⟩:=On.mp a;let⟨h2,e2⟩:=On.mp b;exact(List.getElem_inj hN).mp (e1.trans e2.symm)
def pD (I:Inv X pins σ H s) (hN:X.N.Nodup) (hi:X.N[i]?=!x) (hx:Loc X.env.scope x) (r:RelV v u) (h:∀s',Inv X pins (σ.set i (!v)) H s'->(∃a,Heap.SameBut a s.heap s'.heap/\(a=X.env.locals\/X.env.cells.lookup x=!a))->Q () s') (hf:X.fn x=true\/X.env.scope.names.lookup x=some .local:=by first|exact .inl rfl|exact .inr rfl|assumption):wpAny M A (storeName X.env x u) Q E s:=by
 let⟨m,hn,hl⟩:=id I.loc;have hcls:(X.env.scope.kind==.class||(X.env.scope.kind==.module&&X.env.locals !=X.env.globals))=false:=by rw[I.ok.kind];rfl
 have hiσ:i<σ.length:=by rw[I.len];exact(On.mp hi).1
 have cne:=I.cne;have tracked:∀ {a:Addr} {h':Heap},(∃o,s.heap.get? a=!o/\H a=none)->Heap.SameBut a s.heap h'->HOk X.prog X.w H h':=λ{a h'} ha hs b ob e=>by
  let⟨_,_,hfree⟩:=ha;refine(I.hok b ob e).stay (λc w' hc q=>(hs.2 c ?_).trans q) (λ_ q=>q) λ_ _ q=>q;rintro rfl;rcases hc with rfl|hc
  .rw[hfree]at e;cases e
  .rw[hfree]at hc;cases hc
 rcases hx with hk|hk
 .refine wpAny_storeName_local hk hn (λh' hn' hs=>?_) hcls;let⟨oL,_,_,hoL,_⟩:=id hn;refine h _ ⟨I.ok,I.os,I.bare,⟨λb o e n hb hx=>?_,λb o e n hb hx=>?_,I.base.free,λb o e hx=>?_,I.base.tups,I.base.frzs,I.base.tbls⟩,⟨_,hn',λj y v' e1 e2 e3=>?_⟩,λy c e=>?_,I.free,I.freeC,λp hp=>?_,tracked ⟨oL,hoL,I.free⟩ hs,by simpa using I.len⟩ ⟨_,hs,.inl rfl⟩
  .exact(hs.2 b (Ow (Ot (Oj e) I.ok.above))).trans (I.base.keep b o e n hb hx)
  .let⟨sl,e1⟩:=I.base.slot b o e n hb hx;exact⟨sl,(hs.2 b (Ow (Ot (Oj e) I.ok.above))).trans e1⟩
  .let⟨o',e1⟩:=I.base.there b o e hx;exact⟨o',(hs.2 b (Ow (Ot (Oj e) I.ok.above))).trans e1⟩
  .by_cases hj:j=i
   .subst hj;rw[hi]at e1;cases e1;rw[List.getElem?_set_self hiσ]at e2;cases e2;exact⟨u,r,.inl ⟨hk,by simp⟩⟩
   .rw[List.getElem?_set_ne (Ne.symm hj)]at e2;let⟨u',r',q⟩:=hl j y v' e1 e2 e3;refine⟨u',r',?_⟩;rcases q with⟨k,e⟩|⟨k,c,e,z⟩
    .refine .inl ⟨k,?_⟩;have:y≠x:=λe=>hj (sj hN e1 (e▸hi));simp[this,e]
    .exact .inr ⟨k,c,e,z.sameBut hs (cne y c e)⟩
  .let⟨w',z⟩:=I.cell y c e;exact⟨w',z.sameBut hs (cne y c e)⟩
  .let⟨e,n,ne,nf,d⟩:=I.pin p hp;exact⟨(hs.2 p.1 ne).trans e,n,ne,nf,d⟩
 .have hfn:X.fn x=true:=by
   rcases hf with z|z
   .exact z
   .rw[z]at hk;cases hk
  let⟨c,hc⟩:=I.ok.has x (.inl hk);let⟨w',z⟩:=I.cell x c hc;refine wpAny_storeName_cell I.ok.kind hk hc z (λh' hc' hs=>?_);let⟨oc,hoc,hocd⟩:=id z;refine h {s with heap:=h'} ⟨I.ok,I.os,I.bare,⟨λb o e n hb hx=>?_,λb o e n hb hx=>?_,I.base.free,λb o e hx=>?_,I.base.tups,I.base.frzs,I.base.tbls⟩,⟨m,hn.sameBut hs (Ne.symm (cne x c hc)),λj y v' e1 e2 e3=>?_⟩,λy c' e=>?_,I.free,I.freeC,λp hp=>?_,tracked ⟨oc,hoc,I.freeC x c hc⟩ hs,by simpa using I.len⟩ ⟨c,hs,.inr hc⟩
  .exact(hs.2 b (Ow (Ot (Oj e) (I.ok.cab x c hfn hc)))).trans (I.base.keep b o e n hb hx)
  .let⟨sl,e1⟩:=I.base.slot b o e n hb hx;exact⟨sl,(hs.2 b (Ow (Ot (Oj e) (I.ok.cab x c hfn hc)))).trans e1⟩
  .let⟨o',e1⟩:=I.base.there b o e hx;exact⟨o',(hs.2 b (Ow (Ot (Oj e) (I.ok.cab x c hfn hc)))).trans e1⟩
  .by_cases hj:j=i
   .subst hj;rw[hi]at e1;cases e1;rw[List.getElem?_set_self hiσ]at e2;cases e2;exact⟨u,r,.inr ⟨.inl hk,c,hc,hc'⟩⟩
   .rw[List.getElem?_set_ne (Ne.symm hj)]at e2;let⟨u',r',q⟩:=hl j y v' e1 e2 e3;refine⟨u',r',?_⟩;rcases q with q|⟨k,c',e,z'⟩
    .exact .inl q
    .refine .inr ⟨k,c',e,z'.sameBut hs ?_⟩;rintro rfl;exact hj (sj hN e1 (I.ok.inj _ _ _ e hc▸hi))
  .by_cases hcc:c'=c
   .subst hcc;exact⟨_,hc'⟩
   .let⟨w2,z2⟩:=I.cell y c' e;exact⟨w2,z2.sameBut hs hcc⟩
  .let⟨e,n,ne,nf,d⟩:=I.pin p hp;refine⟨(hs.2 p.1 ?_).trans e,n,ne,nf,d⟩;intro q;rw[q,hoc]at e;have q':=Option.some.inj e;exact d w' (by rw[<-q'];exact hocd)
def sk (I:Inv X pins σ H s) (hN:X.N.Nodup) (hi:X.N[i]?=!x) (hx:Loc X.env.scope x) (r:RelV v u) (h:∀s',Inv X pins (σ.set i (!v)) H s'->Q () s') (hf:X.fn x=true\/X.env.scope.names.lookup x=some .local:=by first|exact .inl rfl|exact .inr rfl|assumption):wpAny M A (storeName X.env x u) Q E s:=
 pD I hN hi hx r (λs' I' _=>h s' I') hf
def Inv.call' (I:Inv X pins σ H s) (ho:s'.os=s.os) (u:Un (frs X.stack) ch H H' s.heap s'.heap) (hok:HOk X.prog X.w H' s'.heap) (hg:AllBare s'.gens) (hch:∀b∈ch,(b∈X.ex\/X.s₀.heap.objs.size<=b)/\b≠X.env.locals/\(∀x c,X.env.cells.lookup x=!c->c≠b)/\∀p∈X.pn++pins,p.1≠b):Inv X pins σ H' s':=by
 let⟨h',g',d',t',o'⟩:=s';have e:=ho;subst e;exact I.call u hok hg hch
end
abbrev XK:=Value->Option Addr->Hp->Prop
abbrev St:=List (Option V)
abbrev VK:=V->Hp->Prop
noncomputable abbrev TE:=St->Hp->VK->Prop
noncomputable abbrev TT:=St->Hp->(Bool->Hp->Prop)->Prop
noncomputable abbrev TA:=St->Hp->(List V->Hp->Prop)->Prop
structure Ends where
 nx:St->Hp->Prop
 rt:VK
 bk:St->Hp->Prop:=λ_ _=>False
 ct:St->Hp->Prop:=λ_ _=>False
noncomputable abbrev TS:=Ends->St->Hp->Prop
def  EP (X:Cx) (pins:N1) (σ:St) (Q:VK) (u:Value) (s':Shared):Prop:=∃v H',Inv X pins σ H' s'/\RelV v u/\Q v H'
def  TP (X:Cx) (pins:N1) (σ:St) (Q:Bool->Hp->Prop) (b:Bool) (s':Shared):Prop:=∃H',Inv X pins σ H' s'/\Q b H'
def  AP (X:Cx) (pins:N1) (σ:St) (Q:List V->Hp->Prop) (us:N5) (s':Shared):Prop:=∃vs H',Inv X pins σ H' s'/\Vals vs us/\Q vs H'
def  SP (X:Cx) (pins:N1) (D:Ends) (f:Flow) (s':Shared):Prop:=
 match f with
 |.next=>∃σ' H',Inv X pins σ' H' s'/\D.nx σ' H'
 |.brk=>∃σ' H',Inv X pins σ' H' s'/\D.bk σ' H'
 |.cont=>∃σ' H',Inv X pins σ' H' s'/\D.ct σ' H'
 |.ret u=>∃v σ' H',Inv X pins σ' H' s'/\RelV v u/\D.rt v H'
def  PE (X:Cx) (e:Expr) (t:TE):Prop:=
 ∀ (pins:N1) (s:Shared) (σ:St) (H:Hp) (Q:VK),Inv X pins σ H s->t σ H Q->wpAny (!4) X.A (eval e X.env) (EP X pins σ Q) X.xe s
def  PT (X:Cx) (e:Expr) (t:TT):Prop:=
 ∀ (pins:N1) (s:Shared) (σ:St) (H:Hp) (Q:Bool->Hp->Prop),Inv X pins σ H s->t σ H Q->wpAny (!4) X.A (isTrue e X.env (eval e X.env)) (TP X pins σ Q) X.xe s
def  PW (X:Cx) (e:Expr) (t:TT):Prop:=
 ∀ (whole:Sem Value) (pins:N1) (s:Shared) (σ:St) (H:Hp) (Q:Bool->Hp->Prop),Inv X pins σ H s->t σ H Q->wpAny (!4) X.A (isTrue e X.env whole) (TP X pins σ Q) X.xe s
def PW.pt (h:PW X e t):PT X e t:=h _
def  PA (X:Cx) (es:Od) (t:TA):Prop:=
 ∀ (pos:Pos) (pins:N1) (s:Shared) (σ:St) (H:Hp) (Q:List V->Hp->Prop),Inv X pins σ H s->t σ H Q->wpAny (!4) X.A (spliced (!15)) (AP X pins σ Q) X.xe s
def  PS (X:Cx) (st:Stmt) (t:TS):Prop:=
 ∀ (pins:N1) (s:Shared) (σ:St) (H:Hp) (D:Ends),Inv X pins σ H s->t D σ H->wpAny (!4) X.A (exec st X.env) (SP X pins D) X.xe s
def  PSs (X:Cx) (st:List Stmt) (t:TS):Prop:=
 ∀ (pins:N1) (s:Shared) (σ:St) (H:Hp) (D:Ends),Inv X pins σ H s->t D σ H->wpAny (!4) X.A (execs st X.env) (SP X pins D) X.xe s
def thn {Q Q':α->Shared->Prop} (h:wpAny M A t Q E s) (hQ:∀a s,Q a s->Q' a s):wpAny M A t Q' E s:=OG h hQ λ_ _ x=>x
section
variable {X:Cx}
def  L8 (i:Nat):TE:=λσ H Q=>∃v,σ[i]?=!(!v)/\Q v H
def  tC (v:V):TE:=λ_ H Q=>Q v H
def bT {pos} (hN:X.N[i]?=!x) (hv:Vis X.env.scope x) (hd:(!7)=false:=by decide) (hcd:(!12)=false:=by decide):PE X (.Name x pos) (L8 i):=by
 intro pins s σ H Q I h;let⟨v,e,h⟩:=h;let⟨m,hn,hl⟩:=I.loc;let⟨u,r,l⟩:=hl i x v hN e hv;have fin:EP X pins σ Q u s:=⟨v,H,I,r,h⟩;rcases l with⟨hk,hm⟩|⟨hk,c,hc,hcell⟩
 .exact wpAny_Name (wpAny_loadName_local I.ok.kind hk hn hm fin) hd
 .rcases hk with hk|hk
  .exact wpAny_Name (wpAny_loadName_cell I.ok.kind hk hc hcell fin) hd
  .exact wpAny_Name (wpAny_loadName_free I.ok.kind hk hc hcell fin hcd) hd
def pe_int:PE X (.Constant (.int i) j pos) (tC (.int i)):=λ_ _ _ H _ I h=>wpAny_Constant_int ⟨.int i,H,I.tok _,⟨_,rfl⟩,h⟩
def pe_bl:PE X (.Constant (.bool b) j pos) (tC (.bl b)):=λ_ _ _ H _ I h=>Constant_bool ⟨.bl b,H,I,rfl,h⟩
def pe_non:PE X (.Constant .none j pos) (tC .non):=λ_ _ _ H _ I h=>Constant_none ⟨.non,H,I,rfl,h⟩
def pe_str:PE X (.Constant (.str x) j pos) (tC (.str x)):=λ_ _ _ H _ I h=>Calls.Constant_str ⟨.str x,H,I.tok _,⟨_,rfl⟩,h⟩
def  Gl (X:Cx) (x:Str):Prop:=X.env.kindOf x=some .globalImplicit
def qv {σ:St} (I:Inv X pins σ H s) (hg:Gl X x) (hm:X.mg x=!u) (h:Q u s) (hd:(!7)=false:=by decide):wpAny (!4) X.A (eval (.Name x pos) X.env) Q E s:=
 Calls.Name_function_global I.ok.kind hg (Calls.loadGlobal_global (by rw[I.ok.glob];exact I.mod.glob.keeps I.bk) hm h) hd
def cE {E} {σ:St} {pos} (I:Inv X pins σ H s) (hg:Gl X x) (hm:X.mg x=none) (hv:bootBuiltins x=!u) (h:Q u s) (hn:x≠"__name__":=by decide) (hd:(!7)=false:=by decide):wpAny (!4) X.A (eval (.Name x pos) X.env) Q E s:=by
 let⟨mb,h1,h2⟩:=I.mod.blt;exact Calls.Name_function_global I.ok.kind hg (Calls.loadGlobal_builtin (by rw[I.ok.glob];exact I.mod.glob.keeps I.bk) hm (by rw[I.ok.blt];exact h1.keeps I.bk) ((h2 x hn).trans hv) h) hd
def CJ (hg:Gl X x) (hm:X.mg x=!u) (r:RelV v u) (hd:(!7)=false:=by decide):PE X (.Name x pos) (tC v):=
 λ_ _ _ H _ I h=>qv I hg hm ⟨v,H,I,r,h⟩ hd
def CK {pos} (hg:Gl X x) (hm:X.mg x=none) (hv:bootBuiltins x=!u) (r:RelV v u) (hn:x≠"__name__":=by decide) (hd:(!7)=false:=by decide):PE X (.Name x pos) (tC v):=
 λ_ _ _ H _ I h=>cE I hg hm hv ⟨v,H,I,r,h⟩ hn hd
variable {a b:Expr} {ta tb:TE} {pos:Pos}
variable {tA tB':TT} {rest:Od}
def  L9 (t u:TT):TT:=λσ H Q=>t σ H λc H1=>if c=true then u σ H1 Q else Q false H1
def  tOr (t u:TT):TT:=λσ H Q=>t σ H λc H1=>if c=true then Q true H1 else u σ H1 Q
def  Ma (t:TT):TT:=λσ H Q=>t σ H λc H1=>Q (not c) H1
def pw_and1 (ha:PT X a tA):PW X (.BoolOp .And [a] pos) tA:=by
 intro wh pins s σ H Q I h;refine isTrue_and (thn (ha pins s σ H Q I h) λc s1 e=>?_);cases c with
 |true=>exact isTrue_and_nil e
 |false=>exact e
def pw_or1 (ha:PT X a tA):PW X (.BoolOp .Or [a] pos) tA:=by
 intro wh pins s σ H Q I h;refine isTrue_or (thn (ha pins s σ H Q I h) λc s1 e=>?_);cases c with
 |false=>exact isTrue_or_nil e
 |true=>exact e
def pw_and (ha:PT X a tA) (hb:PW X (.BoolOp .And (b::rest) pos) tB'):PW X (.BoolOp .And (a::b::rest) pos) (L9 tA tB'):=by
 intro wh pins s σ H Q I h;refine isTrue_and (thn (ha pins s σ H _ I h) λc s1 ⟨H1,I1,q1⟩=>?_);cases c with
 |true=>exact hb wh pins s1 σ H1 Q I1 q1
 |false=>exact⟨H1,I1,q1⟩
def pw_or (ha:PT X a tA) (hb:PW X (.BoolOp .Or (b::rest) pos) tB'):PW X (.BoolOp .Or (a::b::rest) pos) (tOr tA tB'):=by
 intro wh pins s σ H Q I h;refine isTrue_or (thn (ha pins s σ H _ I h) λc s1 ⟨H1,I1,q1⟩=>?_);cases c with
 |true=>exact⟨H1,I1,q1⟩
 |false=>exact hb wh pins s1 σ H1 Q I1 q1
def FW (ha:PT X a tA):PT X (.UnaryOp .Not a pos) (Ma tA):=by
 intro pins s σ H Q I h;exact isTrue_not (ha pins s σ H (λc H1=>Q (not c) H1) I h)
def  Je (ta tb:TE):TE:=λσ H Q=>ta σ H λx H1=>∃c,x=.bl c/\if c=true then tb σ H1 Q else Q (.bl false) H1
def  Jf (ta:TE):TE:=λσ H Q=>ta σ H λx H1=>∃c,x=.bl c/\Q (.bl (not c)) H1
def FX (h:PE X a t):PE X (.BoolOp op [a] pos) t:=λpins s σ H Q I hw=>BoolOp_one (h pins s σ H Q I hw)
def FY (ha:PE X a ta) (hb:PE X (.BoolOp .And (b::rest) pos) tb):PE X (.BoolOp .And (a::b::rest) pos) (Je ta tb):=by
 intro pins s σ H Q I h;refine BoolOp_and (thn (ha pins s σ H _ I h) λv s1 ⟨x,H1,I1,r1,q1⟩=>?_);let⟨c,rfl,q1⟩:=q1;cases r1;refine wpAny_truthy_bool ?_;cases c with
 |true=>exact hb pins s1 σ H1 Q I1 q1
 |false=>exact⟨.bl false,H1,I1,rfl,q1⟩
def FZ (ha:PE X a ta):PE X (.UnaryOp .Not a pos) (Jf ta):=by
 intro pins s σ H Q I h;refine UnaryOp_ (thn (ha pins s σ H _ I h) λv s1 ⟨x,H1,I1,r1,q1⟩=>?_);let⟨c,rfl,q1⟩:=q1;cases r1;exact not_of (wpAny_truthy_bool ⟨.bl (not c),H1,I1,rfl,q1⟩)
def  tIf (t:TT) (ta tb:TE):TE:=λσ H Q=>t σ H λc H1=>if c=true then ta σ H1 Q else tb σ H1 Q
def yY (hc:PT X c tA) (ha:PE X a ta) (hb:PE X b tb):PE X (.IfExp c a b pos) (tIf tA ta tb):=by
 intro pins s σ H Q I h;refine wpAny_IfExp (thn (hc pins s σ H _ I h) λd s1 ⟨H1,I1,q1⟩=>?_);cases d with
 |true=>exact ha pins s1 σ H1 Q I1 q1
 |false=>exact hb pins s1 σ H1 Q I1 q1
end
def  SqL (K:Frag) (H:Hp) (a:Addr) (xs:List V):Prop:=
 Rd H a (.lst xs)\/
  ∃ (o:Obj) (its:Ob) (n:Nat),K.lookup a=!o/\o.cls=.type "list"/\o.dict=none/\o.data=.seq its n/\its.size<=sizeLine/\Vals xs its.toList
def  SqT (K:Frag) (H:Hp) (a:Addr) (xs:List V):Prop:=
 Rd H a (.tup xs)\/
  ∃ (o:Obj) (its:Ob) (n:Nat),K.lookup a=!o/\o.cls=.type "tuple"/\o.data=.seq its n/\its.size<=sizeLine/\Vals xs its.toList
def  Mb:Value->Option V
 |.none=>some .non
 |.bool b=>!(.bl b)
 |.int i _=>!(.int i)
 |.str x _=>!(.str x)
 |.bytes b _=>!(.byt b)
 |.float b _=>!(.flt b)
 |.ref a=>!(.ref a)
 |.type n=>!(.ty n)
 |_=>none
def RelV.abs (r:RelV x u):Mb u=!x:=by
 cases x with
 |non=>cases r;rfl
 |bl _=>cases r;rfl
 |int _=>let⟨t,rfl⟩:=r;rfl
 |str _=>let⟨t,rfl⟩:=r;rfl
 |byt _=>let⟨t,rfl⟩:=r;rfl
 |flt _=>let⟨t,rfl⟩:=r;rfl
 |ref _=>cases r;rfl
 |ty _=>cases r;rfl
def RelV.inj (r:RelV x u) (q:RelV y u):x=y:=Option.some.inj (r.abs.symm.trans q.abs)
def Vals.inj:∀ {xs ys:List V} {us:N5},Vals xs us->Vals ys us->xs=ys
 |_,_,_,.nil,.nil=>rfl
 |_,_,_,.cons r t,.cons r' t'=>by rw[r.inj r',Vals.inj t t']
section
variable {X:Cx} {pins:N1} {σ:St} {H:Hp} {s:Shared} {a:Addr} {xs ys:List V}
def SqL.up {K} (h:∀b o,H b=!o->H' b=!o) (q:SqL K H a xs):SqL K H' a xs:=by
 rcases q with(q|⟨o,q⟩)|q
 .exact .inl (.inl (h _ _ q))
 .exact .inl (.inr ⟨o,h _ _ q⟩)
 .exact .inr q
def SqL.of {K} (h:H a=!(.lst xs)):SqL K H a xs:=.inl (.inl h)
def SqT.of {K} (h:H a=!(.tup xs)):SqT K H a xs:=.inl (.inl h)
def Inv.list (I:Inv X pins σ H s) (h:SqL X.K H a xs):∃its:N5,Vals xs its/\PlainL s.heap a its.toArray/\xs.length<=sizeLine:=by
 rcases h with h|⟨o,its,n,hk,hc,hd,hs,hz,r⟩
 .let⟨z,its,n,r,e⟩:=h.ok I.hok;exact⟨its,r,⟨_,n,e,rfl,rfl,rfl⟩,z⟩
 .refine⟨its.toList,r,⟨o,n,I.kIn a o hk,hc,hd,by simpa using hs⟩,?_⟩;have e:=r.length;simp only[Array.length_toList]at e;omega
def Inv.tuple (I:Inv X pins σ H s) (h:SqT X.K H a xs):∃its:N5,Vals xs its/\IsTup s.heap a its.toArray/\xs.length<=sizeLine:=by
 rcases h with h|⟨o,its,n,hk,hc,hs,hz,r⟩
 .let⟨z,its,r,p⟩:=h.ok I.hok;exact⟨its,r,p,z⟩
 .refine⟨its.toList,r,⟨o,I.kIn a o hk,hc,n,by simpa using hs⟩,?_⟩;have e:=r.length;simp only[Array.length_toList]at e;omega
def Inv.list_inj (I:Inv X pins σ H s) (h:SqL X.K H a xs) (h':SqL X.K H a ys):xs=ys:=by
 let⟨its,r,⟨o,n,e,_,_,d⟩,_⟩:=I.list h;let⟨its',r',⟨o',n',e',_,_,d'⟩,_⟩:=I.list h';rw[e]at e';cases e';rw[d]at d';injection d' with d1 _;have:its=its':=by simpa using congrArg Array.toList d1
 subst this;exact r.inj r'
def Inv.tuple_inj (I:Inv X pins σ H s) (h:SqT X.K H a xs) (h':SqT X.K H a ys):xs=ys:=by
 let⟨its,r,⟨o,e,_,n,d⟩,_⟩:=I.tuple h;let⟨its',r',⟨o',e',_,n',d'⟩,_⟩:=I.tuple h';rw[e]at e';cases e';rw[d]at d';injection d' with d1 _;have:its=its':=by simpa using congrArg Array.toList d1
 subst this;exact r.inj r'
end
noncomputable abbrev Cx.wish (X:Cx) (E:N4):Cx:={X with xe:=E}
abbrev Cx.nox (X:Cx):Cx:=X.wish λ_ _=>False
def Cx.Ok.wish {X:Cx} (ok:X.Ok) (E:N4):(X.wish E).Ok:=
 ⟨ok.mod,ok.kind,ok.glob,ok.blt,ok.above,ok.inj,ok.has,ok.cab,ok.hd,ok.frames,ok.stk,ok.exf,ok.bs,ok.bsz,ok.noex,ok.exfs,ok.funs,ok.frf⟩
def Cx.Ok.unwish {X:Cx} (ok:(X.wish E).Ok):X.Ok:=
 ⟨ok.mod,ok.kind,ok.glob,ok.blt,ok.above,ok.inj,ok.has,ok.cab,ok.hd,ok.frames,ok.stk,ok.exf,ok.bs,ok.bsz,ok.noex,ok.exfs,ok.funs,ok.frf⟩
section
variable {X:Cx} {pins:N1} {σ:St} {H:Hp} {s:Shared} {E:N4}
def Inv.wish (I:Inv X pins σ H s) (E:N4):Inv (X.wish E) pins σ H s:=⟨I.ok.wish E,I.os,I.bare,I.base,I.loc,I.cell,I.free,I.freeC,I.pin,I.hok,I.len⟩
def Inv.unwish (I:Inv (X.wish E) pins σ H s):Inv X pins σ H s:=⟨I.ok.unwish,I.os,I.bare,I.base,I.loc,I.cell,I.free,I.freeC,I.pin,I.hok,I.len⟩
def SP.unwish {D} (h:SP (X.wish E) pins D f s'):SP X pins D f s':=by
 cases f with
 |next=>let⟨σ',H',I,q⟩:=h;exact⟨σ',H',I.unwish,q⟩
 |brk=>let⟨σ',H',I,q⟩:=h;exact⟨σ',H',I.unwish,q⟩
 |cont=>let⟨σ',H',I,q⟩:=h;exact⟨σ',H',I.unwish,q⟩
 |ret u=>let⟨v,σ',H',I,r,q⟩:=h;exact⟨v,σ',H',I.unwish,r,q⟩
def PSs.nox {st} (h:PSs X.nox st t):PSs X st t:=λpins s σ H D I hw=>
 OG (h pins s σ H D (I.wish _) hw) (λ_ _ q=>q.unwish) λ_ _ z=>False.elim z
end
section
variable {X:Cx} {st:Stmt} {rest:List Stmt} {t u:TS} {e:Expr} {te:TE} {pos:Pos}
def  yZ:TS:=λD σ H=>D.nx σ H
def  Mc (t u:TS):TS:=λD σ H=>t {D with nx:=u D} σ H
def pss_nil:PSs X [] yZ:=λ_ _ σ H _ I h=>wpAny_execs_nil ⟨σ,H,I,h⟩
def jh (h1:PS X st t) (h2:PSs X rest u):PSs X (st::rest) (Mc t u):=by
 intro pins s σ H D I h;refine wpAny_execs_cons (thn (h1 pins s σ H {D with nx:=u D} I h) λf s1 q=>?_);cases f with
 |next=>
  let⟨σ',H',I',q⟩:=q;exact h2 pins s1 σ' H' D I' q
 |ret v=>exact q
 |brk=>exact q
 |cont=>exact q
def ps_pass:PS X (.Pass pos) yZ:=λ_ _ σ H _ I h=>wpAny_Pass ⟨σ,H,I,h⟩
def Inv.quiet {σ:St} (I:Inv X pins σ H s):interactive X.env=false:=by simp[interactive,I.ok.kind]
def ps_doc:PS X (.Expr (.Constant (.str x) j pos) pos') yZ:=λ_ s σ H _ I h=>wpAny_Expr (Calls.Constant_str (⟨σ,H,I.tok _,h⟩)) I.quiet
def  Jg (te:TE):TS:=λD σ H=>te σ H λ_ H1=>D.nx σ H1
def eF (he:PE X e te) (hs:swapsWith e none pos.line X.env=pure false:=by rfl):PS X (.Expr e pos) (Jg te):=by
 intro pins s σ H D I h;exact wpAny_Expr_any (thn (he pins s σ H _ I h) λv s1 ⟨x,H1,I1,r1,q1⟩=>⟨σ,H1,I1,q1⟩) I.quiet hs
def  Md (te:TE):TS:=λD σ H=>te σ H D.rt
def ut (he:PE X e te):PS X (.Return (!e) pos) (Md te):=by
 intro pins s σ H D I h;exact wpAny_Return_some (thn (he pins s σ H _ I h) λv s1 ⟨x,H1,I1,r1,q1⟩=>⟨x,σ,H1,I1,r1,q1⟩)
def  Jh:TS:=λD _ H=>D.rt .non H
def ps_retN:PS X (.Return none pos) Jh:=λ_ _ σ H _ I h=>wpAny_Return_none ⟨.non,σ,H,I,rfl,h⟩
def  Me (c:TT) (t u:TS):TS:=λD σ H=>c σ H λb H1=>if b=true then t D σ H1 else u D σ H1
def Ji (hc:PT X c tc) (ha:PSs X a t) (hb:PSs X b u):PS X (.If c a b pos) (Me tc t u):=by
 intro pins s σ H D I h;refine wpAny_If (thn (hc pins s σ H _ I h) λd s1 ⟨H1,I1,q1⟩=>?_);cases d with
 |true=>exact ha pins s1 σ H1 D I1 q1
 |false=>exact hb pins s1 σ H1 D I1 q1
def  y0:TS:=λ_ _ _=>False
def ps_never:PS X st y0:=λ_ _ _ _ _ _ h=>h.elim
def pss_never:PSs X sts y0:=λ_ _ _ _ _ _ h=>h.elim
end
abbrev TG:=V->St->Hp->(St->Hp->Prop)->Prop
abbrev TGs:=List V->St->Hp->(St->Hp->Prop)->Prop
def  PG (X:Cx) (target:Expr) (t:TG):Prop:=
 ∀ (pins:N1) (s:Shared) (σ:St) (H:Hp) (v:V) (u:Value) (Q:St->Hp->Prop),Inv X pins σ H s->RelV v u->t v σ H Q->
  wpAny (!4) X.A (assign target X.env u) (λ_ s'=>∃σ' H',Inv X pins σ' H' s'/\Q σ' H') X.xe s
def  PGs (X:Cx) (ts:Od) (t:TGs):Prop:=
 ∀ (pins:N1) (s:Shared) (σ:St) (H:Hp) (vs:List V) (us:N5) (Q:St->Hp->Prop),Inv X pins σ H s->Vals vs us->t vs σ H Q->
  wpAny (!4) X.A (assignInOrder ((assignEach ts X.env).map (·.2)) us) (λ_ s'=>∃σ' H',Inv X pins σ' H' s'/\Q σ' H') X.xe s
abbrev F0:=V->V->V->Hp->(Hp->Prop)->Prop
def  F3 (X:Cx) (t:F0):Prop:=
 ∀ (pins:N1) (s:Shared) (σ:St) (H:Hp) (o i v:V) (ov iv u:Value) (Q:Hp->Prop),Inv X pins σ H s->RelV o ov->RelV i iv->RelV v u->t o i v H Q->
  wpAny (!4) X.A (setItem ov iv u) (λ_ s'=>∃H',Inv X pins σ H' s'/\Q H') X.xe s
section
variable {X:Cx} {pos:Pos}
def  so (i:Nat):TG:=λv σ H Q=>Q (σ.set i (!v)) H
def vW (hN:X.N.Nodup) (hi:X.N[i]?=!x) (hx:Loc X.env.scope x) (hf:X.fn x=true\/X.env.scope.names.lookup x=some .local:=by first|exact .inl rfl|exact .inr rfl|assumption):PG X (.Name x pos) (so i):=by
 intro pins s σ H v u Q I r h;exact wpAny_assign_Name (sk I hN hi hx r (λs' I'=>⟨_,H,I',h⟩) hf)
def  Mg:TGs:=λvs σ H Q=>vs=[]/\Q σ H
def  Jj (t:TG) (u:TGs):TGs:=λvs σ H Q=>∃v r,vs=v::r/\t v σ H λσ' H'=>u r σ' H' Q
def pgs_nil:PGs X [] Mg:=by
 intro pins s σ H vs us Q I r h;let⟨e,h⟩:=h;exact assignInOrder_nil ⟨σ,H,I,h⟩
def sr (h1:PG X e t) (h2:PGs X es u) (hs:(assignEach (e::es) X.env).map (·.2)=assign e X.env::(assignEach es X.env).map (·.2):=by rfl):PGs X (e::es) (Jj t u):=by
 intro pins s σ H vs us Q I r h;let⟨v,vr,e1,h⟩:=h;subst e1;cases r with
 |cons r rr=>
  rw[hs];refine assignInOrder_cons (thn (h1 pins s σ H _ _ _ I r h) λ_ s1 ⟨σ1,H1,I1,q1⟩=>?_);exact h2 pins s1 σ1 H1 _ _ Q I1 rr q1
def  Mh (K:Frag) (n:Nat) (t:TGs):TG:=λv σ H Q=>∃a xs,v=.ref a/\SqT K H a xs/\xs.length=n/\t xs σ H Q
def y6 {k} (hc:X.calm=true) (h:PGs X es t) (hn:(assignEach es X.env).length=n:=by rfl) (hst:(assignEach es X.env).findIdx? (·.1)=none:=by rfl):PG X (.Tuple es k pos) (Mh X.K n t):=by
 intro pins s σ H v u Q I r hw;let⟨a,xs,e1,hq,hl,hw⟩:=hw;subst e1;cases r;let⟨its,rv,ht,hz⟩:=I.tuple hq;refine assign_Tuple_tuple (I.ok.hd hc) ht (by simp[hn,<-hl,rv.length]) hst λh' hx=>?_;have I1:Inv X pins σ H {s with heap:=h'}:=I.kept λb o e=>hx b o (Ow (Oj e)) e;exact h pins _ σ H xs _ Q I1 (by simpa using rv) hw
def  Mi (to ti:TE) (t:F0):TG:=λv σ H Q=>to σ H λo H1=>ti σ H1 λi H2=>t o i v H2 λH3=>Q σ H3
def y7 (ho:PE X o to) (hi:PE X i ti) (hs:F3 X t) (ha:∀v,assign (.Subscript o i pos) X.env v=(do
  let ov<-holding [v] (eval o X.env)
  let iv<-holding [v,ov] (eval i X.env)
  standAt pos
  holding [v,ov,iv] (setItem ov iv v)
  release [v,ov,iv] []):=by intro _;rfl):PG X (.Subscript o i pos) (Mi to ti t):=by
 intro pins s σ H v u Q I r h
 refine Og (wpAny_holding (thn (ho pins s σ H _ I h) λov s1 ⟨x,H1,I1,r1,q1⟩=>?_))
 refine Og (wpAny_holding (thn (hi pins s1 σ H1 _ I1 q1) λiv s2 ⟨y,H2,I2,r2,q2⟩=>?_))
 refine Og (wpAny_standAt (Og (wpAny_holding (thn (hs pins s2 σ H2 x y v ov iv u _ I2 r1 r2 r q2) λ_ s3 ⟨H3,I3,q3⟩=>?_))))
 exact wpAny_release ⟨σ,H3,I3,q3⟩
def  y8 (te:TE) (g:TG):TS:=λD σ H=>te σ H λx H1=>g x σ H1 D.nx
def qw (he:PE X e te) (hg:PG X tg g) (hs:swapsWithSole [tg] e pos.line X.env=pure false:=by rfl) (hw:swappedStores [tg] e X.env=pure none:=by rfl) (h1:(assignEach [tg] X.env).map (·.2)=[assign tg X.env]:=by rfl):PS X (.Assign [tg] e pos) (y8 te g):=by
 intro pins s σ H D I h;refine wpAny_Assign_stores (thn (he pins s σ H _ I h) λv s1 ⟨x,H1,I1,r1,q1⟩=>?_) hs hw;rw[h1];exact thn (hg pins s1 σ H1 x v _ I1 r1 q1) λ_ s2 q=>q
def F4 (hN:X.N.Nodup) (hi:X.N[i]?=!x) (hx:Loc X.env.scope x) (he:PE X e te) (hs:swapsWith e (!(.Name x pos')) pos.line X.env=pure false:=by rfl) (hf:X.fn x=true\/X.env.scope.names.lookup x=some .local:=by first|exact .inl rfl|exact .inr rfl|assumption):
  PS X (.Assign [.Name x pos'] e pos) (y8 te (so i)):=by
 intro pins s σ H D I h
 refine wpAny_Assign_Name (thn (he pins s σ H _ I h) λv s1 ⟨y,H1,I1,r1,q1⟩=>?_) hs
 exact sk I1 hN hi hx r1 (λs2 I2=>⟨_,H1,I2,q1⟩) hf
end
section
variable {X:Cx} {pos:Pos}
end
structure It where
 go:Nat->Hp->Prop
 yld:Nat->Hp->V->Hp->Prop
 stop:Nat->Hp->Prop
def  iX (X:Cx) (pins:N1) (H:Hp) (b:Addr):Prop:=
 H b=none/\b≠X.env.locals/\b ∉ X.fs/\(b∈X.ex\/X.s₀.heap.objs.size<=b)/\(∀x c,X.env.cells.lookup x=!c->c≠b)/\∀p∈X.pn++pins,p.1≠b
def Inv.fpOk {σ:St} {b:Addr} (I:Inv X pins σ H s) (hb:s.heap.objs.size<=b) (hn:H' b=none):iX X pins H' b:=by
 refine⟨hn,Nat.ne_of_gt (Ot I.lt hb),I.nofs hb,.inr (Ov I.sz hb),λx c e z=>?_,λp hp z=>?_⟩
 .let⟨v,q⟩:=I.cell x c e;exact absurd (Ot q.lt (by rw[z];exact hb)) (OB _)
 .exact absurd (Ot (Oj (I.pin p hp).1) (by rw[z];exact hb)) (OB _)
structure Turn (P:Program) (w:World) (K:Frag) (tg:Expr) (J:It) (fp:List Addr) (it:Addr) (tn:Nat->Heap->Prop):Prop where
 mem:it∈fp
 obj:∀i h,tn i h->∀b∈fp,∃o,h.get? b=!o/\∀v,o.data≠.cell v
 keep:∀i h h',tn i h->(∀b∈fp,∀o,h.get? b=!o->h'.get? b=!o)->tn i h'
 item:∀ (X:Cx),X.prog=P->X.w=w->X.K=K->X.calm=true->∀ (i:Nat) (pins:N1) (s:Shared) (σ:St) (H:Hp) (E:N4),Inv X pins σ H s->(∀b∈fp,iX X pins H b)->tn i s.heap->J.go i H->
  wpAny (model P w) X.A (pyNext (.ref it)) (λr s1=>∃u,r=!u/\
   wpAny (model P w) X.A (letOwnedTupleGo tg (.ref it) u) (λ_ s2=>∃x H',Inv X pins σ H' s2/\RelV x u/\J.yld i H x H'/\tn (i+1) s2.heap/\∀b∈fp,H' b=none) E s1) E s
 done:∀ (X:Cx),X.prog=P->X.w=w->X.K=K->X.calm=true->∀ (i:Nat) (pins:N1) (s:Shared) (σ:St) (H:Hp) (E:N4),Inv X pins σ H s->(∀b∈fp,iX X pins H b)->tn i s.heap->J.stop i H->
  wpAny (model P w) X.A (pyNext (.ref it)) (λr s1=>r=none/\Inv X pins σ H s1) E s
 self:∀ (A:Around) (i:Nat) (s:Shared) (Q:N4) (E:N4),tn i s.heap->Q (.ref it) s->wpAny (model P w) A (pyIter (.ref it)) Q E s
noncomputable abbrev TI:=St->Hp->(It->Hp->Prop)->Prop
def  PIE (X:Cx) (pins:N1) (σ:St) (tg:Expr) (R:It->Hp->Prop) (itv:Value) (s2:Shared):Prop:=
 ∃ (it:Addr) (fp:List Addr) (tn:Nat->Heap->Prop) (J:It) (H':Hp),itv=.ref it/\Inv X pins σ H' s2/\Turn X.prog X.w X.K tg J fp it tn/\tn 0 s2.heap/\(∀b∈fp,iX X pins H' b)/\R J H'
def  PI (X:Cx) (tg iter:Expr) (wi:TI):Prop:=
 ∀ (pins:N1) (s:Shared) (σ:St) (H:Hp) (R:It->Hp->Prop),Inv X pins σ H s->wi σ H R->
  wpAny (!4) X.A (eval iter X.env) (λv s1=>wpAny (!4) X.A (pyIter v) (PIE X pins σ tg R) X.xe s1) X.xe s
def vX (ho:s.heap.get? it = !o) (hc:o.cls = .type n) (hd:o.data = .fields vs) (hn:["enumerate", "zip", "dict_itemiterator", "dict_reverseitemiterator", "odict_iterator", "itertools.zip_longest", "itertools.pairwise"].contains n = false) (hQ:Q () s):wpAny M A (letOwnedTupleGo tg (.ref it) u) Q E s:=by
  cases tg <;> first
    | exact Oi hQ
    | (cases u <;> first
        | exact Oi hQ
        | (refine Og (wpAny_load ho ?_)
           rw [hc,hd]
           show wpAny M A (if (["enumerate", "zip", "dict_itemiterator", "dict_reverseitemiterator", "odict_iterator", "itertools.zip_longest", "itertools.pairwise"].contains n && vs[0]? == !(rawInt _)) = true then _ else _) Q E s
           rw [if_neg (by intro h; rw [hn,Bool.false_and] at h; cases h)]
           exact Oi hQ))
noncomputable def  Itl (K:Frag) (a:Addr):It:=
 ⟨λi H=>∃xs x,SqL K H a xs/\xs[i]?=!x,λi H x H'=>H'=H/\∀xs,SqL K H a xs->xs[i]?=!x,λi H=>∃xs,SqL K H a xs/\xs.length<=i⟩
noncomputable def  Itt (K:Frag) (a:Addr):It:=
 ⟨λi H=>∃xs x,SqT K H a xs/\xs[i]?=!x,λi H x H'=>H'=H/\∀xs,SqT K H a xs->xs[i]?=!x,λi H=>∃xs,SqT K H a xs/\xs.length<=i⟩
noncomputable def  Itr (lo:Int) (n:Nat):It:=⟨λi _=>i<n,λi H x H'=>H'=H/\x=.int (lo+i),λi _=>n<=i⟩
def xC {P:Program} {w:World} {K:Frag} {tg:Expr} (a it:Addr):Turn P w K tg (Itl K a) [it] it (λi h=>h.IsListIter it a i) where
 mem:=by simp
 obj:=λi h st b hb=>by
  have e:b=it:=by simpa using hb
  subst e;let⟨o,e,c,d⟩:=st;exact⟨o,e,λv z=>by rw[d]at z;cases z⟩
 keep:=λi h h' st k=>st.at λo e=>k it (by simp) o e
 item:=by
  intro X hP hw hK hc i pins s σ H E I hf st hg;subst hP hw hK;let⟨xs,x,hq,hx⟩:=hg;let⟨its,rv,p,hz⟩:=I.list hq;let⟨u,hu,ru⟩:=rv.get hx;let⟨f0,f1,f2,f3,f4,f5⟩:=hf it (by simp);refine wpAny_pyNext_list_item st p.isList (by simpa using hu) λh' st' sb=>?_;have I1:Inv X pins σ H {s with heap:=h'}:=I.turned (λb o hb e=>(sb.2 b hb).trans e) f0 f1 f3 f4 f5;let⟨o,e,c,d⟩:=id st';exact⟨u,rfl,vX e c d (!5) ⟨x,H,I1,ru,⟨rfl,λys hy=>by rw[I.list_inj hy hq];exact hx⟩,st',λb hb=>(hf b hb).1⟩⟩
 done:=by
  intro X hP hw hK hc i pins s σ H E I hf st hg;subst hP hw hK;let⟨xs,hq,hx⟩:=hg;let⟨its,rv,p,hz⟩:=I.list hq;let⟨f0,f1,f2,f3,f4,f5⟩:=hf it (by simp);have hl:=rv.length;exact wpAny_pyNext_list_end (I.ok.hd hc) st p.isList (by simp;omega) λh' eb=>⟨rfl,I.turned (λb o hb e=>eb b o hb e) f0 f1 f3 f4 f5⟩
 self:=λ_ _ _ _ _ st h=>wpAny_pyIter_listiter st h
def uu {P:Program} {w:World} {K:Frag} {tg:Expr} (a it:Addr):Turn P w K tg (Itt K a) [it] it (λi h=>h.IsTupleIter it a i) where
 mem:=by simp
 obj:=λi h st b hb=>by
  have e:b=it:=by simpa using hb
  subst e;let⟨o,e,c,d⟩:=st;exact⟨o,e,λv z=>by rw[d]at z;cases z⟩
 keep:=λi h h' st k=>st.at λo e=>k it (by simp) o e
 item:=by
  intro X hP hw hK hc i pins s σ H E I hf st hg;subst hP hw hK;let⟨xs,x,hq,hx⟩:=hg;let⟨its,rv,p,hz⟩:=I.tuple hq;let⟨u,hu,ru⟩:=rv.get hx;let⟨f0,f1,f2,f3,f4,f5⟩:=hf it (by simp);refine wpAny_pyNext_tuple_item st (p) (by simpa using hu) λh' st' sb=>?_;have I1:Inv X pins σ H {s with heap:=h'}:=I.turned (λb o hb e=>(sb.2 b hb).trans e) f0 f1 f3 f4 f5;let⟨o,e,c,d⟩:=id st';exact⟨u,rfl,vX e c d (!5) ⟨x,H,I1,ru,⟨rfl,λys hy=>by rw[I.tuple_inj hy hq];exact hx⟩,st',λb hb=>(hf b hb).1⟩⟩
 done:=by
  intro X hP hw hK hc i pins s σ H E I hf st hg;subst hP hw hK;let⟨xs,hq,hx⟩:=hg;let⟨its,rv,p,hz⟩:=I.tuple hq;let⟨f0,f1,f2,f3,f4,f5⟩:=hf it (by simp);have hl:=rv.length;exact wpAny_pyNext_tuple_end (I.ok.hd hc) st (p) (by simp;omega) λh' eb=>⟨rfl,I.turned (λb o hb e=>eb b o hb e) f0 f1 f3 f4 f5⟩
 self:=λ_ _ _ _ _ st h=>wpAny_pyIter_tupleiter st h
def uv {P:Program} {w:World} {K:Frag} {tg:Expr} (it:Addr) (lo:Int) (n:Nat):Turn P w K tg (Itr lo n) [it] it (λi h=>IsRangeIter h it (lo+(i:Nat)*1) ((n:Int)-(i:Nat)) 1) where
 mem:=by simp
 obj:=λi h st b hb=>by
  have e:b=it:=by simpa using hb
  subst e;exact⟨_,st,λv z=>by
   have z':=z;cases z'⟩
 keep:=λi h h' st k=>k it (by simp) _ st
 item:=by
  intro X hP hw hK hc i pins s σ H E I hf st hg;subst hP hw hK;let⟨f0,f1,f2,f3,f4,f5⟩:=hf it (by simp);have W:=Walks.range (prog:=X.prog) (w:=X.w) (I.ok.hd hc) it lo 1 n;refine W.item i s _ _ hg st λv h' tk hv st' kk=>?_;let⟨t,rfl⟩:=hv;have I1:Inv X pins σ H {s with heap:=h',toks:=tk}:=I.turned (λb o hb e=>kk b o (by simpa using hb) e) f0 f1 f3 f4 f5;refine⟨_,rfl,vX st' rfl rfl (!5) ⟨.int _,H,I1,⟨t,?_⟩,⟨rfl,rfl⟩,st',λb hb=>(hf b hb).1⟩⟩;rw[Int.mul_one]
 done:=by
  intro X hP hw hK hc i pins s σ H E I hf st hg;let⟨f0,f1,f2,f3,f4,f5⟩:=hf it (by simp);exact wpAny_pyNext_range_end (I.ok.hd hc) st (by have:n<=i:=hg;omega) λh' eb=>⟨rfl,I.turned (λb o hb e=>eb b o hb e) f0 f1 f3 f4 f5⟩
 self:=λ_ _ _ _ _ st h=>wpAny_pyIter_rangeiter st h
section
variable {X:Cx} {tg:Expr}
def ss {σ:St} {lo hi} (I:Inv X pins σ H s) (h1:-(2^62)<=lo) (h2:lo<2^62) (h3:-(2^62)<=hi) (h4:hi<2^62) (q:R (Itr lo (hi-lo).toNat) H):wpAny (!4) X.A (pyIter (.ref s.heap.objs.size)) (PIE X pins σ tg R) E {s with heap:=s.heap.push {cls:=.type "range",data:=.fields #[.int lo t,.int hi u,.int 1 v]},toks:=tk}:=by
 refine wpAny_pyIter_range (IsRange.new ..) (small_one h1 h2 h3 h4) ?_;have I1:Inv X pins σ H {s with heap:=s.heap.push {cls:=.type "range",data:=.fields #[.int lo t,.int hi u,.int 1 v]},toks:=tk}:=I.kept λb o e=>Oh _ e;refine⟨(s.heap.push {cls:=.type "range",data:=.fields #[.int lo t,.int hi u,.int 1 v]}).objs.size,[(s.heap.push {cls:=.type "range",data:=.fields #[.int lo t,.int hi u,.int 1 v]}).objs.size],_,_,H,rfl,
  I1.kept λb o e=>Oh _ e,uv _ lo (hi-lo).toNat,?_,λb hb=>?_,q⟩
 .have e1:lo+((0:Nat):Int)*1=lo:=by simp
  have e2:(((hi-lo).toNat:Nat):Int)-((0:Nat):Int)=Builtin.Range.rangeSize lo hi 1:=by rw[rangeSize_one];split<;>omega
  rw[e1,e2];exact Ol _ rfl
 .have e:b=(s.heap.push {cls:=.type "range",data:=.fields #[.int lo t,.int hi u,.int 1 v]}).objs.size:=by simpa using hb
  subst e;exact I1.fpOk (OF _) (I1.hok.fresh (OF _))
def  Jk (ta:TA):TI:=λσ H R=>ta σ H λvs H1=>∃j:Int,vs=[.int j]/\ -(2^62)<=j/\j<2^62/\R (Itr 0 j.toNat) H1
def  Jl (ta:TA):TI:=λσ H R=>ta σ H λvs H1=>∃i j:Int,vs=[.int i,.int j]/\(-(2^62)<=i/\i<2^62/\ -(2^62)<=j/\j<2^62)/\R (Itr i (j-i).toNat) H1
def xD (hg:Gl X "range") (hm:X.mg "range"=none) (ha:PA X [a] ta) (hs:starEach [a] X.env=[(false,eval a X.env)]:=by rfl):PI X tg (.Call (.Name "range" p) [a] [] pos) (Jk ta):=by
 intro pins s σ H R I h;refine Call_ (cE I hg hm boot_range (PyProof.Rows.callWith_type1 (thn (ha pos pins s σ H _ I h) λus s1 ⟨vs,H1,I1,r1,q1⟩=>?_) hs rfl));let⟨j,e,q1,q2,q⟩:=q1;subst e;cases r1 with
 |cons r rr=>
  cases rr;let⟨t,rfl⟩:=r;exact call_range_1 (ss I1 (!1) (!1) q1 q2 (by simpa using q))
def xF {p pos} (hg:Gl X "range") (hm:X.mg "range"=none) (ha:PA X [a,b] ta) (hs:starEach [a,b] X.env=[(false,eval a X.env),(false,eval b X.env)]:=by rfl) (hs2:starEach [b] X.env=[(false,eval b X.env)]:=by rfl):
  PI X tg (.Call (.Name "range" p) [a,b] [] pos) (Jl ta):=by
 intro pins s σ H R I h
 refine Call_ (cE I hg hm boot_range (PyProof.Rows.callWith_type1 (thn (ha pos pins s σ H _ I h) λus s1 ⟨vs,H1,I1,r1,q1⟩=>?_) (by rw[hs,hs2]) (by rw[hs2];rfl)))
 let⟨i,j,e,⟨q1,q2,q3,q4⟩,q⟩:=q1
 subst e
 cases r1 with
 |cons r rr=>
  cases rr with
  |cons r' rr=>
   cases rr;let⟨t,rfl⟩:=r;let⟨t',rfl⟩:=r';exact call_range_2 (ss I1 q1 q2 q3 q4 q)
def  Jm (wi:TI) (g:TG) (tb:TS):TS:=λD σ H=>wi σ H λJ H1=>∃W:Nat->Nat->St->Hp->Prop,(∃m,W 0 m σ H1)/\∀i m σ H,W i m σ H->
 (J.stop i H/\D.nx σ H)\/(J.go i H/\∃N:St->Hp->Prop,(∀σ' H',N σ' H'->∃m',m'<m/\W (i+1) m' σ' H')/\∀x H',J.yld i H x H'->g x σ H' λσ2 H2=>tb {D with nx:=N,ct:=N,bk:=D.nx} σ2 H2)
noncomputable def  my (fp:List Addr) (h:Heap):N1:=fp.filterMap λb=>(h.get? b).map λo=>(b,o)
def fX (hb:b∈fp) (e:h.get? b=!o):(b,o)∈my fp h:=List.mem_filterMap.mpr ⟨b,hb,by rw[e];rfl⟩
def xH (hp:p∈my fp h):p.1∈fp/\h.get? p.1=!p.2:=by
 let⟨b,hb,e⟩:=List.mem_filterMap.mp hp;cases q:h.get? b with
 |none=>rw[q]at e;cases e
 |some o=>
  rw[q]at e;have e':=Option.some.inj e;subst e';exact⟨hb,q⟩
def Inv.pinned {σ:St} (I:Inv X pins σ H s) (hf:∀b∈fp,iX X pins H b) (ho:∀b∈fp,∃o,s.heap.get? b=!o/\∀v,o.data≠.cell v):Inv X (pins++my fp s.heap) σ H s:=
 I.pins_of λp hp=>(mem_append.mp hp).elim (λz=>I.pin p (OA _ z)) λz=>by
  let⟨hb,e⟩:=xH z;let⟨f0,f1,f2,_⟩:=hf p.1 hb;let⟨o,e',d⟩:=ho p.1 hb;rw[e]at e';cases e';exact⟨e,f0,f1,f2,d⟩
def Inv.unpinned {σ:St} (I:Inv X (pins++pl) σ H s):Inv X pins σ H s:=I.pins_of λp hp=>I.pin p (OA _ (Oz _ hp))
def y9 (hp:PassesOwn (!4) X.A X.env X.xe) (hc:X.calm=true) (hi:PI X tg iter wi) (hg:PG X tg g) (hb:PSs X body tb) (hs:∀x,foldedSetIterable iter X.env x=pure x:=by intro _;rfl):PS X (.For tg iter body [] pos) (Jm wi g tb):=by
 intro pins s σ H D I h
 refine wpAny_For (thn (hi pins s σ H _ I h) λv s1 h1=>thn h1 λitv s2 h2=>?_) hs
 let⟨it,fp,tn,J,H2,e,I2,T,st2,f2,W,⟨m0,w0⟩,turn⟩:=h2
 subst e
 -- what stays true of the iterator's objects through the loop
 have stat:∀ {H':Hp},(∀b∈fp,H' b=none)->∀b∈fp,iX X pins H' b:=λhn b hb=>⟨hn b hb,(f2 b hb).2⟩
 refine codeAny_forLoop_any (λn s'=>∃i σ' H',Inv X pins σ' H' s'/\tn i s'.heap/\(∀b∈fp,H' b=none)/\W i n σ' H') ?_ m0 ⟨0,σ,H2,I2,st2,λb hb=>(f2 b hb).1,w0⟩
 rintro n s3 ⟨i,σ3,H3,I3,st3,fr3,w3⟩
 rcases turn i n σ3 H3 w3 with⟨stop,qn⟩|⟨go,N,hN,step⟩
 .refine wpAny_passesOwn hp (thn (T.done X rfl rfl rfl hc i pins s3 σ3 H3 X.xe I3 (stat fr3) st3 stop) λr s4 ⟨hr,I4⟩=>?_)
  subst hr
  exact wpAny_execs_nil ⟨σ3,H3,I4,qn⟩
 .refine wpAny_passesOwn hp (thn (T.item X rfl rfl rfl hc i pins s3 σ3 H3 X.xe I3 (stat fr3) st3 go) λr s4 ⟨u,hr,h4⟩=>?_)
  subst hr
  refine wpAny_passesOwn hp (thn h4 λ_ s5 ⟨x,H5,I5,r5,y5,st5,fr5⟩=>?_)
  have I5':=I5.pinned (stat fr5) (T.obj _ _ st5)
  refine wpAny_passesOwn hp (thn (hg _ s5 σ3 H5 x u _ I5' r5 (step x H5 y5)) λ_ s6 ⟨σ6,H6,I6,q6⟩=>?_)
  refine wpAny_passesOwn hp (thn (hb _ s6 σ6 H6 _ I6 q6) λf s7 q7=>?_)
  have again:∀ {σ7:St} {H7:Hp},Inv X (pins++my fp s5.heap) σ7 H7 s7->N σ7 H7->∃m,m<n/\∃i σ' H',Inv X pins σ' H' s7/\tn i s7.heap/\(∀b∈fp,H' b=none)/\W i m σ' H':=λ{σ7 H7} I7 n7=>by
   let⟨m',hm,w7⟩:=hN σ7 H7 n7
   refine⟨m',hm,i+1,σ7,H7,I7.unpinned,T.keep _ _ _ st5 λb hb o e=>(I7.pin (b,o) (OA _ (OA _ (fX hb e)))).1,λb hb=>?_,w7⟩
   let⟨o,e,d⟩:=T.obj _ _ st5 b hb
   exact(I7.pin (b,o) (OA _ (OA _ (fX hb e)))).2.1
  cases f with
  |next=>let⟨σ7,H7,I7,n7⟩:=q7;exact again I7 n7
  |cont=>let⟨σ7,H7,I7,n7⟩:=q7;exact again I7 n7
  |brk=>let⟨σ7,H7,I7,q7⟩:=q7;exact⟨σ7,H7,I7.unpinned,q7⟩
  |ret v=>let⟨x7,σ7,H7,I7,r7,q7⟩:=q7;exact⟨x7,σ7,H7,I7.unpinned,r7,q7⟩
end
abbrev R2:=V->V->Hp->VK->Prop
def  OpR (X:Cx) (f:Value->Value->Sem Value) (r:R2):Prop:=
 ∀ (pins:N1) (s:Shared) (σ:St) (H:Hp) (x y:V) (v u:Value) (Q:VK),Inv X pins σ H s->RelV x v->RelV y u->r x y H Q->
  wpAny (!4) X.A (f v u) (EP X pins σ Q) X.xe s
def  UnR (X:Cx) (f:Value->Sem Value) (r:V->Hp->VK->Prop):Prop:=
 ∀ (pins:N1) (s:Shared) (σ:St) (H:Hp) (x:V) (v:Value) (Q:VK),Inv X pins σ H s->RelV x v->r x H Q->
  wpAny (!4) X.A (f v) (EP X pins σ Q) X.xe s
def  fG (X:Cx) (f:Value) (r:List V->Hp->VK->Prop):Prop:=
 ∀ (pins:N1) (s:Shared) (σ:St) (H:Hp) (xs:List V) (us:N5) (Q:VK),Inv X pins σ H s->Vals xs us->r xs H Q->
  wpAny (!4) X.A (call f us) (EP X pins σ Q) X.xe s
def  Mj (X:Cx) (r:V->Hp->(Bool->Hp->Prop)->Prop):Prop:=
 ∀ (pins:N1) (s:Shared) (σ:St) (H:Hp) (x:V) (v:Value) (Q:Bool->Hp->Prop),Inv X pins σ H s->RelV x v->r x H Q->
  wpAny (!4) X.A (truthy v) (TP X pins σ Q) X.xe s
def  tOp (r:R2) (ta tb:TE):TE:=λσ H Q=>ta σ H λx H1=>tb σ H1 λy H2=>r x y H2 Q
def  tUn (r:V->Hp->VK->Prop) (ta:TE):TE:=λσ H Q=>ta σ H λx H1=>r x H1 Q
def  rI (C:Int->Int->Prop) (g:Int->Int->V):R2:=λx y H Q=>∃i j,x=.int i/\y=.int j/\C i j/\Q (g i j) H
def  rI0 (g:Int->Int->V):R2:=λx y H Q=>∃i j,x=.int i/\y=.int j/\Q (g i j) H
def  rU (g:Int->V):V->Hp->VK->Prop:=λx H Q=>∃i,x=.int i/\Q (g i) H
section
variable {X:Cx} {a b c:Expr} {ta tb tc:TE} {pos:Pos}
def F5 (ha:PE X a ta) (hb:PE X b tb) {σ:St} {R:V->V->Hp->Prop} (I:Inv X pins σ H s) (h:ta σ H λx H1=>tb σ H1 λy H2=>R x y H2) {f:Value->Value->Sem Value} (hf:∀v u s2 x y H2,Inv X pins σ H2 s2->RelV x v->RelV y u->R x y H2->wpAny (!4) X.A (f v u) Q X.xe s2):
  wpAny (!4) X.A (eval a X.env) (λv s₁=>wpAny (!4) X.A (eval b X.env) (λu s₂=>wpAny (!4) X.A (f v u) Q X.xe s₂) X.xe s₁) X.xe s:=by
 refine thn (ha pins s σ H _ I h) λv s1 ⟨x,H1,I1,r1,q1⟩=>?_
 refine thn (hb pins s1 σ H1 _ I1 q1) λu s2 ⟨y,H2,I2,r2,q2⟩=>?_
 grind
def Fc (ho:OpR X (binaryOp op) r) (ha:PE X a ta) (hb:PE X b tb):PE X (.BinOp a op b pos) (tOp r ta tb):=by
 intro pins s σ H Q I h;exact wpAny_BinOp (F5 ha hb I h λv u s2 x y H2 I2 rx ry q=>ho pins s2 σ H2 x y v u Q I2 rx ry q)
def Jn (ho:UnR X (unaryOp op) r) (ha:PE X a ta):PE X (.UnaryOp op a pos) (tUn r ta):=by
 intro pins s σ H Q I h;exact UnaryOp_ (thn (ha pins s σ H _ I h) λv s1 ⟨x,H1,I1,r1,q1⟩=>ho pins s1 σ H1 x v Q I1 r1 q1)
def opI {g:Int->Int->Int} (rule:∀ (i j:Int) (t u:Tok) (s:Shared) (Q:N4) (E:N4),C i j->Q (.int (g i j) s.toks) {s with toks:=s.toks+1}->wpAny (!4) X.A (f (.int i t) (.int j u)) Q E s):
  OpR X f (rI C λi j=>.int (g i j)):=by
 intro pins s σ H x y v u Q I rx ry h
 let⟨i,j,rfl,rfl,hc,q⟩:=h
 let⟨t,rfl⟩:=rx
 let⟨t',rfl⟩:=ry
 exact rule i j t t' s _ _ hc ⟨.int (g i j),H,I.tok _,⟨_,rfl⟩,q⟩
def Jo {g:Int->Int->Int} (rule:∀ (i j:Int) (t u:Tok) (s:Shared) (Q:N4) (E:N4),Q (.int (g i j) s.toks) {s with toks:=s.toks+1}->wpAny (!4) X.A (f (.int i t) (.int j u)) Q E s):
  OpR X f (rI0 λi j=>.int (g i j)):=by
 intro pins s σ H x y v u Q I rx ry h
 let⟨i,j,rfl,rfl,q⟩:=h
 let⟨t,rfl⟩:=rx
 let⟨t',rfl⟩:=ry
 exact rule i j t t' s _ _ ⟨.int (g i j),H,I.tok _,⟨_,rfl⟩,q⟩
def F6 {g:Int->Int->Bool} (rule:∀ (i j:Int) (t u:Tok) (s:Shared) (Q:N4) (E:N4),Q (.bool (g i j)) s->wpAny (!4) X.A (f (.int i t) (.int j u)) Q E s):
  OpR X f (rI0 λi j=>.bl (g i j)):=by
 intro pins s σ H x y v u Q I rx ry h
 let⟨i,j,rfl,rfl,q⟩:=h
 let⟨t,rfl⟩:=rx
 let⟨t',rfl⟩:=ry
 exact rule i j t t' s _ _ ⟨.bl (g i j),H,I,rfl,q⟩
def  Ml (i j:Int):Prop:=0<=j/\j<=1000000/\i.natAbs<2^64
def  CMul (i j:Int):Prop:=(-(2^64)<i/\i<2^64)\/(-(2^64)<j/\j<2^64)
def CMul.ok (h:CMul i j):IntMulOk i j:=by
 rcases h with⟨h1,h2⟩|⟨h1,h2⟩
 .exact .of_left (intBits_le_64 h1 h2)
 .exact .of_right (intBits_le_64 h1 h2)
def F7:OpR X (binaryOp .Add) (rI0 λi j=>.int (i+j)):=Jo λ_ _ _ _ _ _ _ q=>add_int q
def F8:OpR X (binaryOp .Sub) (rI0 λi j=>.int (i-j)):=Jo λ_ _ _ _ _ _ _ q=>sub_int q
def F9:OpR X (binaryOp .Mult) (rI CMul λi j=>.int (i*j)):=opI λ_ _ _ _ _ _ _ hc q=>mul_int q hc.ok
def Ga:OpR X (binaryOp .Mod) (rI (λ_ j=>0<j) λi j=>.int (i%j)):=opI λi j _ _ _ _ _ hc q=>by
 exact mod_int' (!1) (by rw[Int.fmod_eq_emod_of_nonneg i (!1)];exact q)
def unI {g:Int->Int} (rule:∀ (i:Int) (t:Tok) (s:Shared) (Q:N4) (E:N4),Q (.int (g i) s.toks) {s with toks:=s.toks+1}->wpAny (!4) X.A (f (.int i t)) Q E s):
  UnR X f (rU λi=>.int (g i)):=by
 intro pins s σ H x v Q I rx h
 let⟨i,rfl,q⟩:=h
 let⟨t,rfl⟩:=rx
 exact rule i t s _ _ ⟨.int (g i),H,I.tok _,⟨_,rfl⟩,q⟩
def Gc:UnR X (unaryOp .USub) (rU λi=>.int (-i)):=unI λ_ _ _ _ _ q=>neg_int q
end
noncomputable def  zc:V->V->Bool
 |.non,.non=>true|.non,.int _=>true|.int _,.non=>true|.non,.bl _=>true|.bl _,.non=>true|.non,.str _=>true|.str _,.non=>true
 |.int _,.int _=>true|.bl _,.bl _=>true|.str _,.str _=>true|.byt _,.byt _=>true
 |.int _,.str _=>true|.str _,.int _=>true|.bl _,.str _=>true|.str _,.bl _=>true
 |_,_=>false
def  rEq:R2:=λx y H Q=>zc x y=true/\Q (.bl (decide (x=y))) H
def  rNe:R2:=λx y H Q=>zc x y=true/\Q (.bl (not (decide (x=y)))) H
def vY:decide (V.int i=V.int j)=(i==j):=by
 rw[Bool.eq_iff_iff];simp
def dec_bl:decide (V.bl i=V.bl j)=(i==j):=by
 rw[Bool.eq_iff_iff];simp
def vZ:decide (V.str i=V.str j)=(i==j):=by
 rw[Bool.eq_iff_iff];simp
def wa:decide (V.byt i=V.byt j)=(i.toList==j.toList):=by
 rw[Bool.eq_iff_iff];cases i;cases j;simp
section
variable {X:Cx} {a b c:Expr} {ta tb tc:TE} {pos:Pos}
def fin_bl {σ:St} (I:Inv X pins σ H s) (q:Q (.bl k) H) (e:k=k'):EP X pins σ Q (.bool k') s:=by
 subst e;exact⟨.bl k,H,I,rfl,q⟩
def Jp:OpR X (compareOp .Eq) rEq:=by
 intro pins s σ H x y v u Q I rx ry h;let⟨hs,q⟩:=h;cases x with
 |non=>
  cases rx;cases y with
  |non=>cases ry;exact PySem.EqNone.eq_none_none (!10)
  |bl j=>cases ry;exact PySem.EqNone.eq_none_bool (!10)
  |int j=>let⟨t',rfl⟩:=ry;exact PySem.EqNone.eq_none_int (!10)
  |str j=>let⟨t',rfl⟩:=ry;exact PySem.EqNone.eq_none_str (!10)
  |_=>exact absurd (hs) Om
 |bl i=>
  cases rx;cases y with
  |non=>cases ry;exact PySem.EqNone.eq_bool_none (!10)
  |bl j=>cases ry;exact eq_bool (fin_bl I q dec_bl)
  |str j=>let⟨t',rfl⟩:=ry;exact PySem.EqMixed.eq_bool_str (!10)
  |_=>exact absurd (hs) Om
 |int i=>
  let⟨t,rfl⟩:=rx;cases y with
  |non=>cases ry;exact PySem.EqNone.eq_int_none (!10)
  |int j=>let⟨t',rfl⟩:=ry;exact eq_int (fin_bl I q vY)
  |str j=>let⟨t',rfl⟩:=ry;exact PySem.EqMixed.eq_int_str (!10)
  |_=>exact absurd (hs) Om
 |str i=>
  let⟨t,rfl⟩:=rx;cases y with
  |non=>cases ry;exact PySem.EqNone.eq_str_none (!10)
  |bl j=>cases ry;exact PySem.EqMixed.eq_str_bool (!10)
  |int j=>let⟨t',rfl⟩:=ry;exact PySem.EqMixed.eq_str_int (!10)
  |str j=>let⟨t',rfl⟩:=ry;exact eq_str (fin_bl I q vZ)
  |_=>exact absurd (hs) Om
 |byt i=>
  let⟨t,rfl⟩:=rx;cases y with
  |byt j=>let⟨t',rfl⟩:=ry;exact PySem.W.eq_bytes (fin_bl I q wa)
  |_=>exact absurd (hs) Om
 |_=>cases y<;>exact absurd (show false=true from hs) Om
def Jq:OpR X (compareOp .NotEq) rNe:=by
 intro pins s σ H x y v u Q I rx ry h;let⟨hs,q⟩:=h;cases x with
 |non=>
  cases rx;cases y with
  |non=>cases ry;exact PySem.EqNone.ne_none_none (!10)
  |bl j=>cases ry;exact PySem.EqNone.ne_none_bool (!10)
  |int j=>let⟨t',rfl⟩:=ry;exact PySem.EqNone.ne_none_int (!10)
  |str j=>let⟨t',rfl⟩:=ry;exact PySem.EqNone.ne_none_str (!10)
  |_=>exact absurd (hs) Om
 |bl i=>
  cases rx;cases y with
  |non=>cases ry;exact PySem.EqNone.ne_bool_none (!10)
  |bl j=>cases ry;exact ne_bool (fin_bl I q (congrArg not dec_bl))
  |str j=>let⟨t',rfl⟩:=ry;exact PySem.EqMixed.ne_bool_str (!10)
  |_=>exact absurd (hs) Om
 |int i=>
  let⟨t,rfl⟩:=rx;cases y with
  |non=>cases ry;exact PySem.EqNone.ne_int_none (!10)
  |int j=>let⟨t',rfl⟩:=ry;exact ne_int (fin_bl I q (congrArg not vY))
  |str j=>let⟨t',rfl⟩:=ry;exact PySem.EqMixed.ne_int_str (!10)
  |_=>exact absurd (hs) Om
 |str i=>
  let⟨t,rfl⟩:=rx;cases y with
  |non=>cases ry;exact PySem.EqNone.ne_str_none (!10)
  |bl j=>cases ry;exact PySem.EqMixed.ne_str_bool (!10)
  |int j=>let⟨t',rfl⟩:=ry;exact PySem.EqMixed.ne_str_int (!10)
  |str j=>let⟨t',rfl⟩:=ry;exact ne_str (fin_bl I q (congrArg not vZ))
  |_=>exact absurd (hs) Om
 |byt i=>
  let⟨t,rfl⟩:=rx;cases y with
  |byt j=>let⟨t',rfl⟩:=ry;exact PySem.W.ne_bytes (fin_bl I q (congrArg not wa))
  |_=>exact absurd (hs) Om
 |_=>cases y<;>exact absurd (show false=true from hs) Om
def op_lt:OpR X (compareOp .Lt) (rI0 λi j=>.bl (decide (i<j))):=F6 λ_ _ _ _ _ _ _ q=>lt_int q
def pE:OpR X (compareOp .LtE) (rI0 λi j=>.bl (decide (i<=j))):=F6 λ_ _ _ _ _ _ _ q=>le_int q
def op_gt:OpR X (compareOp .Gt) (rI0 λi j=>.bl (decide (j<i))):=F6 λ_ _ _ _ _ _ _ q=>gt_int q
def op_isN:OpR X (compareOp .Is) (λx y H Q=>y=.non/\Q (.bl (decide (x=.non))) H):=by
 intro pins s σ H x y v u Q I rx ry h;let⟨rfl,q⟩:=h;cases ry;refine is_none_gen (fin_bl I q ?_);cases x<;>first
  |(cases rx;rfl)
  |(let⟨t,rfl⟩:=rx;rfl)
def OpR.or (h:OpR X f r) (h':OpR X f r'):OpR X f (λx y H Q=>r x y H Q\/r' x y H Q):=by
 intro pins s σ H x y v u Q I rx ry q;rcases q with q|q
 .exact h pins s σ H x y v u Q I rx ry q
 .exact h' pins s σ H x y v u Q I rx ry q
def eT (b:Expr) (h:op≠.In:=by decide) (h2:op≠.NotIn:=by decide):behindInMarks op b=false:=by
 have e1:(op==CmpOp.In)=false:=by cases op<;>first|rfl|exact absurd rfl h
 have e2:(op==CmpOp.NotIn)=false:=by cases op<;>first|rfl|exact absurd rfl h2
 cases b<;>simp[behindInMarks,e1,e2]
def CL (ho:OpR X (compareOp op) r) (ha:PE X a ta) (hb:PE X b tb) (hm:behindInMarks op b=false):PE X (.Compare a [op] [b] pos) (tOp r ta tb):=by
 intro pins s σ H Q I h;exact wpAny_Compare1 (F5 ha hb I h λv u s2 x y H2 I2 rx ry q=>ho pins s2 σ H2 x y v u Q I2 rx ry q) hm
def  Fd (t:TE):TT:=λσ H Q=>t σ H λx H'=>∃k,x=.bl k/\Q k H'
def CM (ho:OpR X (compareOp op) r) (ha:PE X a ta) (hb:PE X b tb) (hm:behindInMarks op b=false):PT X (.Compare a [op] [b] pos) (Fd (tOp r ta tb)):=by
 intro pins s σ H Q I h;refine wpAny_isTrue_Compare1 (thn (ha pins s σ H _ I h) λv s1 ⟨x,H1,I1,r1,q1⟩=>thn (hb pins s1 σ H1 _ I1 q1) λu s2 ⟨y,H2,I2,r2,q2⟩=>
  thn (ho pins s2 σ H2 x y v u _ I2 r1 r2 q2) λc s3 ⟨z,H3,I3,r3,k,e,q3⟩=>?_) hm
 subst e;cases r3;exact wpAny_truthy_bool ⟨H3,I3,q3⟩
def  uw (r r':R2) (ta tb tc:TE):TE:=λσ H Q=>ta σ H λx H1=>tb σ H1 λy H2=>r x y H2 λz H3=>∃k,z=.bl k/\
 (if k=true then tc σ H3 λw' H4=>r' y w' H4 Q else Q (.bl false) H3)
def zd (ho:OpR X (compareOp op) r) (ho':OpR X (compareOp op') r') (ha:PE X a ta) (hb:PE X b tb) (hc:PE X c tc) (hm:lastMarks [op,op'] [b,c]=false:=by with_unfolding_all rfl):PE X (.Compare a [op,op'] [b,c] pos) (uw r r' ta tb tc):=by
 intro pins s σ H Q I h;refine Compare_chain (thn (ha pins s σ H _ I h) λv s1 ⟨x,H1,I1,r1,q1⟩=>chain_link (thn (hb pins s1 σ H1 _ I1 q1) λu s2 ⟨y,H2,I2,r2,q2⟩=>
  thn (ho pins s2 σ H2 x y v u _ I2 r1 r2 q2) λd s3 ⟨z,H3,I3,r3,k,e,q3⟩=>?_)) hm
 subst e;cases r3;refine wpAny_truthy_bool ?_;cases k with
 |false=>exact ite_ff ⟨.bl false,H3,I3,rfl,q3⟩
 |true=>exact ite_tt (chain_last (thn (hc pins s3 σ H3 _ I3 q3) λw' s4 ⟨z',H4,I4,r4,q4⟩=>ho' pins s4 σ H4 y z' u w' Q I4 r2 r4 q4))
def ze (ho:OpR X (compareOp op) r) (ho':OpR X (compareOp op') r') (ha:PE X a ta) (hb:PE X b tb) (hc:PE X c tc) (hm:lastMarks [op,op'] [b,c]=false:=by with_unfolding_all rfl):PT X (.Compare a [op,op'] [b,c] pos) (Fd (uw r r' ta tb tc)):=by
 intro pins s σ H Q I h;refine isTrue_chain (thn (ha pins s σ H _ I h) λv s1 ⟨x,H1,I1,r1,q1⟩=>test_link (thn (hb pins s1 σ H1 _ I1 q1) λu s2 ⟨y,H2,I2,r2,q2⟩=>
  thn (ho pins s2 σ H2 x y v u _ I2 r1 r2 q2) λd s3 ⟨z,H3,I3,r3,k,e,q3⟩=>?_)) hm
 subst e;cases r3;refine wpAny_truthy_bool ?_;cases k with
 |false=>
  let⟨k',e',q'⟩:=q3;cases e';exact ite_ff ⟨H3,I3,q'⟩
 |true=>
  refine ite_tt (test_last (thn (hc pins s3 σ H3 _ I3 q3) λw' s4 ⟨z',H4,I4,r4,q4⟩=>thn (ho' pins s4 σ H4 y z' u w' _ I4 r2 r4 q4) λd' s5 ⟨z2,H5,I5,r5,k2,e2,q5⟩=>?_));subst e2;cases r5;exact wpAny_truthy_bool ⟨H5,I5,q5⟩
def  Jr (K:Frag) (x:V) (H:Hp) (k:Bool):Prop:=
 match x with
 |.non=>k=false
 |.bl b=>k=b
 |.int i=>k=(i !=0)
 |.str y=>y.length<=sizeLine/\k=((y.length:Int) !=0)
 |.byt y=>y.size<=sizeLine/\k=((y.size:Int) !=0)
 |.ref p=>(∃xs,SqL K H p xs/\k=not xs.isEmpty)\/(∃xs,SqT K H p xs/\k=not xs.isEmpty)\/∃kvs,H p=!(.dK kvs)/\k=not kvs.isEmpty
 |_=>False
def ux {vs:List (κ×Value)} (r:KV kvs vs):(not vs.isEmpty)=not kvs.isEmpty:=by
 cases r<;>rfl
def mz (r:Vals xs its):(not its.toArray.isEmpty)=not xs.isEmpty:=by
 cases r<;>simp
def iY:(sizeLine:Nat)<2^63:=by rw[sizeLine_eq];decide
def Gd:Mj X (λx H Q=>∃k,Jr X.K x H k/\Q k H):=by
 intro pins s σ H x v Q I rx h;let⟨k,e,q⟩:=h;have hs:=sizeLine_eq;cases x with
 |non=>
  cases rx;have e':=e;subst e';exact truthy_none ⟨H,I,q⟩
 |bl b=>
  cases rx;have e':=e;subst e';exact wpAny_truthy_bool ⟨H,I,q⟩
 |int i=>
  let⟨t,rfl⟩:=rx;have e':=e;subst e';exact PySem.P.truthy_int ⟨H,I,q⟩
 |str y=>
  let⟨t,rfl⟩:=rx;obtain⟨hy,e'⟩:y.length<=sizeLine/\k=((y.length:Int) !=0):=e;subst e';exact PySem.P.truthy_str (!1) ⟨H,I.tok _,q⟩
 |byt y=>
  let⟨t,rfl⟩:=rx;obtain⟨hy,e'⟩:y.size<=sizeLine/\k=((y.size:Int) !=0):=e;subst e';exact PySem.W.truthy_bytes (!1) ⟨H,I.tok _,q⟩
 |ref p=>
  cases rx;have e':(∃xs,SqL X.K H p xs/\k=not xs.isEmpty)\/(∃xs,SqT X.K H p xs/\k=not xs.isEmpty)\/∃kvs,H p=!(.dK kvs)/\k=not kvs.isEmpty:=e;rcases e' with⟨xs,hx,e'⟩|⟨xs,hx,e'⟩|⟨kvs,hx,e'⟩
  .subst e';let⟨its,r,pl,hz⟩:=I.list hx;have hlen:=r.length;exact wpAny_truthy_list pl.isList (by simp only[size_toArray];omega) ⟨H,I.tok _,by rw[mz r];exact q⟩
  .subst e';let⟨its,r,pl,hz⟩:=I.tuple hx;have hlen:=r.length;exact truthy_tuple pl (by simp only[size_toArray];omega) ⟨H,I.tok _,by rw[mz r];exact q⟩
  .subst e';obtain⟨hz,hS,vs,r,m⟩:kvs.length<=sizeLine/\(p==sysModules)=false/\∃vs,KV kvs vs/\s.heap.DictOf (dC X.prog X.w) p vs:=I.hok p _ hx;have hlen:=Paired.length r;exact wpAny_truthy_dict hS m (!1) ⟨H,I.tok _,by rw[ux r];exact q⟩
 |_=>exact(e).elim
def zf (ha:PE X a ta) (he:∀whole,isTrue a X.env whole=(do let v<-whole;standAt a.pos;holding [v] (truthy v))):
  PT X a (λσ H Q=>ta σ H λx H'=>∃k,Jr X.K x H' k/\Q k H'):=by
 intro pins s σ H Q I h
 exact isTrue_plain (thn (ha pins s σ H _ I h) λv s1 ⟨x,H1,I1,r1,q1⟩=>Gd pins s1 σ H1 x v Q I1 r1 q1) (he _)
def gq (r:Vals [x] us):∃u,us=[u]/\RelV x u:=by
 cases r with
 |cons r1 r2=>cases r2;exact⟨_,rfl,r1⟩
def zg (r:Vals [x,y] us):∃u w',us=[u,w']/\RelV x u/\RelV y w':=by
 cases r with
 |cons r1 r2=>
  cases r2 with
  |cons r3 r4=>cases r4;exact⟨_,_,rfl,r1,r3⟩
def call_min2 (hc:X.calm=true):fG X (.builtin "min") (λxs H Q=>∃i j,xs=[.int i,.int j]/\Q (.int (if j<i then j else i)) H):=by
 intro pins s σ H xs us Q I r h;let⟨i,j,rfl,q⟩:=h;let⟨u,w',rfl,⟨t,rfl⟩,⟨t',rfl⟩⟩:=zg r;refine min_two_ints (I.ok.hd hc) λh' tk k=>⟨_,H,I.kept k,?_,q⟩;by_cases hj:j<i
 .rw[if_pos hj,if_pos hj];exact⟨_,rfl⟩
 .rw[if_neg hj,if_neg hj];exact⟨_,rfl⟩
end
structure ObjM (h:Heap) (x dx C:Addr) (mA:Str->N6):Prop where
 obj:h.get? x=!(PySem.W.instObj C dx)
 ns:h.Ns1 dx mA
 ne:dx≠x
def xI {h:Heap} (n:h.Ns1 dx mA):∃od,h.get? dx=!od/\∀name,PySem.W.lookIn name od=!(mA name):=by
 let⟨o,es,ep,ho,hd,hk,_,hm⟩:=n;refine⟨o,ho,λname=>?_⟩;have e:=hm name;unfold nsFind findBy at e;rw[<-Array.find?_toList]at e;unfold PySem.W.lookIn;rw[hd];dsimp only;split
 .rename_i y q;rw[q]at e;exact congrArg some e
 .rename_i q;rw[q]at e;have a:es.toList.any (·.refKey)=false:=by
   rw[List.any_eq_false];intro y hy;let⟨z,t,hkey⟩:=hk y (Array.mem_toList_iff.mp hy);simp[DictEntry.refKey,hkey]
  have a':¬es.toList.any (·.refKey)=true:=by rw[a];exact Om
  rw[if_neg a'];exact congrArg some e
def ObjM.look (I:ObjM h x dx C mA):∃od,PySem.W.InstAt h x (PySem.W.instObj C dx) C (!od)/\∀name,PySem.W.lookIn name od=!(mA name):=
 let⟨od,ho,hl⟩:=xI I.ns
 ⟨od,⟨I.obj,rfl,rfl,ho⟩,hl⟩
section
variable {prog:Program} {w:World} {A:Around} {E:N4} {s:Shared} {K:Frag} {x dx C f:Addr} {mA:Str->N6} {name:Str} {v:Value}
def CN (X:K.In s.heap) (I:ObjM s.heap x dx C mA) (hg:PySem.W.plainGet K C name=true) (hh:PySem.W.hasDictIn K C=true) (ha:findIn K (.ref C) name=!none) (hv:mA name=!v) (hv':PySem.W.handedIn v=true) (h:Q v {s with toks:=s.toks+1}):
  wpAny (!6) A (getAttr (.ref x) name expr) Q E s:=by
 let⟨od,J,hl⟩:=I.look
 exact PySem.W.get_value X J (PySem.W.plainGet_of hg).1 (PySem.W.findObj_own hh ha rfl (by rw[hl,hv])) hv' h
def zh (X:K.In s.heap) (I:ObjM s.heap x dx C mA) (hg:PySem.W.plainGet K C name=true) (hf:findIn K (.ref C) name=!(!(.ref f))) (ht:PySem.W.isFn K (.ref f)=true) (hv:mA name=none) (h:Q (.ref f,[.ref x]) s):
  wpAny (!6) A (getMethod (.ref x) name pl) Q E s:=by
 let⟨od,J,hl⟩:=I.look
 exact PySem.W.method_fn X J (PySem.W.plainGet_of hg).1 (PySem.W.plainGet_of hg).2 hf (beq_iff_eq.mp ht) (by show(PySem.W.lookIn name od).map (·.isSome)=!false;rw[hl,hv];rfl) h
def CO (X:K.In s.heap) (I:ObjM s.heap x dx C mA) (hs:findIn K (.ref C) "__setattr__"=!(!(.builtin "object.__setattr__"))) (hp:PySem.W.plainOver K C=true) (ht:PySem.W.takerIn K C name=!none) (hh:PySem.W.hasDictIn K C=true) (hw:PySem.Within mA ns) (hsz:ns.length<=sizeLine) (h:∀h',ObjM h' x dx C (λy=>if y=name then !v else mA y)->Heap.SameBut dx s.heap h'->Q () {s with heap:=h',toks:=s.toks+2}):
  wpAny (!6) A (setAttr (.ref x) name v) Q E s:=by
 let⟨od,J,hl⟩:=I.look
 refine PySem.W.set_plain X J hs (PySem.W.osa_open X J hp ht λb=>?_)
 let⟨cd,hc,hd'⟩:=PySem.W.any_some hh
 have hx:=I.obj
 refine Og (Oi (Og (Og (wpAny_loadPart hx (Og (PySem.W.Looks.here (PySem.W.looks_clsIn X hc) ?_))))))
 rw[hd']
 refine Oi (Og (Oi (Og ?_)))
 refine wpAny_nsSet1 I.ns λh' hn2 hs2=>?_
 let⟨oD,esD,epD,hoD,hdD,hcD⟩:=hn2.count (PySem.Within.cons name v hw)
 refine Og (wpAny_lookBehind hoD (by rw[hdD];exact pastItsLine_dict (Ov hcD (by rw[length_cons];omega))) ?_)
 exact Oi (h _ ⟨(hs2.2 _ (Ne.symm I.ne)).trans I.obj,hn2,I.ne⟩ hs2)
def zi (X:K.In s.heap) (hm:PySem.W.makesIn K C=true) (hi:findIn K (.ref C) "__init__"=!(!(.ref f))) (hf:PySem.W.typeIn K (.ref f)=!(.type "function")) (h:codeAny (!6) (A.under (.builtin "type.__call__" ⟨.ref C::vs,kw⟩)) (.call (.ref f) ⟨.ref (!13)::vs,kw⟩) (PySem.W.InitBack (!13) R)
   {s with heap:=(s.heap.push PySem.W.emptyDict).push (PySem.W.instObj C s.heap.objs.size)}):
  codeAny (!6) A (.call (.ref C) ⟨vs,kw⟩) R s:=by
 exact PySem.W.make_core (PySem.W.makes_of X hm) (PySem.W.looks_findIn X hi) (λself=>PySem.W.bind_fn X self hf) (.inl rfl) h
end
noncomputable def  fY (f:Str) (v:V):List (Str×V)->List (Str×V)
 |[]=>[(f,v)]
 |(g,x)::r=>if g=f then(g,v)::r else(g,x)::fY f v r
def kR (f g:Str) (v:V):∀fs:List (Str×V),(fY f v fs).lookup g=if g=f then !v else fs.lookup g
 |[]=>by
  show List.lookup g [(f,v)]=_;by_cases h:g=f
  .have hb:(g==f)=true:=beq_iff_eq.mpr h;simp only[List.lookup,hb,if_pos h]
  .have hb:(g==f)=false:=beq_eq_false_iff_ne.mpr h;simp only[List.lookup,hb,if_neg h]
 |(k,x)::r=>by
  have ih:=kR f g v r;rw[show fY f v ((k,x)::r)=(if k=f then(k,v)::r else(k,x)::fY f v r)from rfl];by_cases hk:k=f
  .rw[if_pos hk];by_cases h:g=k
   .have hb:(g==k)=true:=beq_iff_eq.mpr h;simp only[List.lookup,hb,if_pos (h.trans hk)]
   .have hb:(g==k)=false:=beq_eq_false_iff_ne.mpr h;simp only[List.lookup,hb,if_neg (λe:g=f=>h (e.trans hk.symm))]
  .rw[if_neg hk];by_cases h:g=k
   .have hb:(g==k)=true:=beq_iff_eq.mpr h;simp only[List.lookup,hb,if_neg (λe:g=f=>hk (h.symm.trans e))]
   .have hb:(g==k)=false:=beq_eq_false_iff_ne.mpr h;simp only[List.lookup,hb];exact ih
def j0 (f:Str) (v:V):∀fs:List (Str×V),f∈(fY f v fs).map (·.1)/\∀g,g∈fs.map (·.1)->g∈(fY f v fs).map (·.1)
 |[]=>⟨by simp[fY],λg h=>by simp at h⟩
 |(k,x)::r=>by
  let⟨i1,i2⟩:=j0 f v r;rw[show fY f v ((k,x)::r)=(if k=f then(k,v)::r else(k,x)::fY f v r)from rfl];by_cases hk:k=f
  .rw[if_pos hk];subst hk;exact⟨by simp,λg h=>by simpa using h⟩
  .rw[if_neg hk];refine⟨?_,λg h=>?_⟩
   .rw[List.map_cons];exact Op _ i1
   .rw[List.map_cons]at h⊢;rcases mem_cons.mp h with e|e
    .exact mem_cons.mpr (.inl e)
    .exact Op _ (i2 g e)
def kT (f:Str) (v:V):∀fs:List (Str×V),(fY f v fs).length<=fs.length+1
 |[]=>by simp[fY]
 |(k,x)::r=>by
  have ih:=kT f v r;rw[show fY f v ((k,x)::r)=(if k=f then(k,v)::r else(k,x)::fY f v r)from rfl];by_cases hk:k=f
  .rw[if_pos hk,length_cons,length_cons];omega
  .rw[if_neg hk,length_cons,length_cons];omega
def RelO.some_of (r:RelO (!v) o):∃u,o=!u/\RelV v u:=by
 cases o with
 |none=>exact(r).elim
 |some u=>exact⟨u,rfl,r⟩
def RelO.none_of (r:RelO none o):o=none:=by grind [RelO]
def xJ (r:RelV v u):PySem.W.handedIn u=true:=by
 cases v with
 |non=>cases(r);rfl
 |bl b=>cases(r);rfl
 |int i=>let⟨t,e⟩:=(r);cases e;rfl
 |str x=>let⟨t,e⟩:=(r);cases e;rfl
 |byt b=>let⟨t,e⟩:=(r);cases e;rfl
 |flt b=>let⟨t,e⟩:=(r);cases e;rfl
 |ref a=>cases(r);rfl
 |ty n=>cases(r);rfl
section
variable {P:Program} {w:World} {H H':Hp} {h h':Heap} {a C dx:Addr} {fs fs':List (Str×V)}
def qx (hok:HOk P w H h) (e:H a=!(.ins C dx fs)):∃mA,ObjM h a dx C mA/\(∀f,RelO (fs.lookup f) (mA f))/\PySem.Within mA (fs.map (·.1))/\fs.length<=1000/\H dx=!(.own a):=by
 let⟨d,z,ne,ob,mA,n,r,q⟩:=(hok a _ e);exact⟨mA,⟨ob,n,ne⟩,r,q,z,d⟩
end
structure Cls (K:Frag) (C:Addr):Prop where
 pg:PySem.W.plainGet K C Str.empty=true
 hd:PySem.W.hasDictIn K C=true
 po:PySem.W.plainOver K C=true
 sa:findIn K (.ref C) "__setattr__"=!(!(.builtin "object.__setattr__"))
def Cls.get {K} (c:Cls K C) (f:Str):PySem.W.plainGet K C f=true:=c.pg
def  NoAttr (K:Frag) (C:Addr) (f:Str):Prop:=findIn K (.ref C) f=!none
def NoAttr.taker {K} (n:NoAttr K C f):PySem.W.takerIn K C f=!none:=by
 unfold PySem.W.takerIn;grind [NoAttr]
structure Meth (K:Frag) (C:Addr) (m:Str) (f:Addr):Prop where
 at_:findIn K (.ref C) m=!(!(.ref f))
 fn:PySem.W.isFn K (.ref f)=true
 kp:PySem.W.keepIn K (.ref f)=true
section
variable {X:Cx} {pins:N1} {σ:St} {H:Hp} {s:Shared} {a C dx:Addr} {fs:List (Str×V)} {f:Str} {v:V} {A:Around} {E:N4}
def uy (I:Inv X pins σ H s) (e:H a=!(.ins C dx fs)) (c:Cls X.K C) (n:NoAttr X.K C f) (l:fs.lookup f=!v) (h:∀u s',Inv X pins σ H s'->RelV v u->Q u s'):wpAny (!4) A (getAttr (.ref a) f b) Q E s:=by
 let⟨mA,O,r,_,_,_⟩:=qx I.hok e;let⟨u,hu,ru⟩:=RelO.some_of (by rw[<-l];exact r f);exact CN I.kIn O (c.get f) c.hd n hu (xJ ru) (h u _ (I.tok _) ru)
def uz (I:Inv X pins σ H s) (e:H a=!(.ins C dx fs)) (c:Cls X.K C) (k:Meth X.K C m g) (l:fs.lookup m=none) (h:Q (.ref g,[.ref a]) s):wpAny (!4) A (getMethod (.ref a) m pl) Q E s:=by
 let⟨mA,O,r,_,_,_⟩:=qx I.hok e;have hn:=RelO.none_of (by rw[<-l];exact r m);exact zh I.kIn O (c.get m) k.at_ k.fn hn h
def uA (I:Inv X pins σ H s) (e:H a=!(.ins C dx fs)) (c:Cls X.K C) (n:NoAttr X.K C f) (hl:fs.length<1000) (ry:RelV y u) (h:∀s',Inv X pins σ (upd H a (.ins C dx (fY f y fs))) s'->Q () s'):wpAny (!4) A (setAttr (.ref a) f u) Q E s:=by
 let⟨mA,O,r,wi,_,ho⟩:=qx I.hok e;have hz:(fs.map (·.1)).length<=sizeLine:=by rw[length_map,sizeLine_eq];omega
 refine CO I.kIn O c.sa c.po n.taker c.hd wi hz λh' O' sb=>h _ ?_;have hd:∃o,h'.get? dx=!o:=let⟨o,_,_,e',_⟩:=O'.ns;⟨o,e'⟩;refine I.write (by rw[e];exact True.intro) (.inr ho) (λb q hb z=>(sb.2 b hb).trans z) hd ?_;refine⟨by rw[ae O.ne];exact ho,?_,O.ne,O'.obj,_,O'.ns,λg=>?_,λg hg=>?_⟩
 .have:=kT f y fs;omega
 .show RelO ((fY f y fs).lookup g) (if g=f then !u else mA g);rw[kR];by_cases q:g=f
  .rw[if_pos q,if_pos q];exact ry
  .rw[if_neg q,if_neg q];exact r g
 .by_cases q:g=f
  .rw[q];exact(j0 f y fs).1
  .refine(j0 f y fs).2 g (wi g λz=>hg ?_);show(if g=f then !u else mA g)=none;rw[if_neg q];exact z
def Inv.made (I:Inv X pins σ H s):Inv X pins σ (upd (upd H s.heap.objs.size (.own (!13))) (!13) (.ins C s.heap.objs.size []))
  {s with heap:=(s.heap.push PySem.W.emptyDict).push (PySem.W.instObj C s.heap.objs.size)}:=by
 have e1:(s.heap.push PySem.W.emptyDict).get? s.heap.objs.size=!PySem.W.emptyDict:=Ol s.heap rfl
 have e2:((s.heap.push PySem.W.emptyDict).push (PySem.W.instObj C s.heap.objs.size)).get? (!13)=!(PySem.W.instObj C s.heap.objs.size):=by
  have:=Ol (s.heap.push PySem.W.emptyDict) (o:=PySem.W.instObj C s.heap.objs.size) rfl;rwa [Heap.size_push]at this
 have e3:(s.heap.push PySem.W.emptyDict).Ns s.heap.objs.size (λ_=>none):=⟨PySem.W.emptyDict,#[],_,e1,rfl,(λe he=>absurd he (by simp)),λ_=>rfl⟩
 have I1:=I.laid (o:=.own (!13)) (t':=s.toks) (λb u q=>Oh _ q) (OF _) ⟨_,e1⟩
 refine I1.laid (λb u q=>Oh _ q) (Nat.le_of_eq (Heap.size_push _ _)) ?_
 have ne:s.heap.objs.size≠s.heap.objs.size+1:=Ow (Nat.lt_succ_self _)
 refine⟨by rw[ae ne,ai],Nat.zero_le _,ne,e2,λ_=>none,(Heap.Ns1.of_empty e3).at λo q=>Oh _ q,λ_=>True.intro,λy hy=>absurd rfl hy⟩
def CP (hb:attributeBase e f env (eval e env)=eval e env) (h:wpAny (!6) A (eval e env) (λo s₁=>wpAny (!6) A (getAttr o f true) Q E s₁) E s):wpAny (!6) A (eval (.Attribute e f pos) env) Q E s:=
 Attribute_any_ h (by rw[arm_eval_Attribute,hb])
end
def  Mm (K:Frag) (ta:TE) (f:Str):TE:=λσ H Q=>ta σ H λx H1=>∃a C dx fs v,x=.ref a/\H1 a=!(.ins C dx fs)/\Cls K C/\NoAttr K C f/\fs.lookup f=!v/\Q v H1
def  Mn (K:Frag) (ta tv:TE) (f:Str):TS:=λD σ H=>tv σ H λy H1=>ta σ H1 λx H2=>∃a C dx fs,x=.ref a/\H2 a=!(.ins C dx fs)/\Cls K C/\NoAttr K C f/\fs.length<1000/\
 D.nx σ (upd H2 a (.ins C dx (fY f y fs)))
section
variable {X:Cx} {o e value:Expr} {f:Str} {pos pos' tpos:Pos} {ta tv:TE}
def zj (he:PE X e ta) (hb:attributeBase e f X.env (eval e X.env)=eval e X.env):PE X (.Attribute e f pos) (Mm X.K ta f):=by
 intro pins s σ H Q I h;refine CP hb (thn (he pins s σ H _ I h) λu s1 ⟨x,H1,I1,rx,a,C,dx,fs,v,ex,ea,c,n,l,q⟩=>?_);subst ex;obtain rfl:u=Value.ref a:=rx;exact uy I1 ea c n l λu' s2 I2 ru=>⟨v,H1,I2,ru,q⟩
def zk (ha:PE X o ta) (hv:PE X value tv) (hs:swapsWith value (!(.Attribute o f pos')) pos.line X.env=pure false):PS X (.Assign [.Attribute o f pos'] value pos) (Mn X.K ta tv f):=by
 intro pins s σ H D I h;refine plainObj_wpAny_Assign_Attribute (thn (hv pins s σ H _ I h) λu s1 ⟨y,H1,I1,ry,q⟩=>thn (ha pins s1 σ H1 _ I1 q) λov s2 ⟨x,H2,I2,rx,a,C,dx,fs,ex,ea,c,n,l,q2⟩=>?_) hs;subst ex;obtain rfl:ov=Value.ref a:=rx;exact uA I2 ea c n l ry λs3 I3=>⟨σ,_,I3,q2⟩
end
section
variable {X:Cx} {pins:N1} {σ:St} {H:Hp} {s:Shared} {A:Around} {E:N4} {Q:N4} {c:Value} {b:Bool}
end
structure Room (k:Nat) (A:Around):Prop where
 hd:A.handled=none
 dp:A.depth+3*k+5<recursionLimit
 un:A.units+16*k+200<cLine
def Room.mono (r:Room k A) (h:j<=k):Room j A:=⟨r.hd,by have:=r.dp;omega,by have:=r.un;omega⟩
def Room.deeper (r:Room (k+1) A) (env:Env):Room k (A.deeper env):=
 ⟨r.hd,by have:=r.dp;show A.depth+1+3*k+5<_;omega,by have:=r.un;show A.units+3+16*k+200<_;omega⟩
def uB {A:Around}:(A.under (.builtin "type.__call__" ⟨.ref C::us,kw⟩)).depth=A.depth+1:=by constructor<;>grind
def uC {A:Around}:(A.under (.builtin "type.__call__" ⟨.ref C::us,kw⟩)).units=A.units+1:=by constructor<;>grind
def Room.make (r:Room (k+1) A) (C:Addr) (us:N5) (kw:List (Str×Value)):Room k (A.under (.builtin "type.__call__" ⟨.ref C::us,kw⟩)):=
 ⟨r.hd,by have:=r.dp;rw[uB];omega,by have:=r.un;rw[uC];omega⟩
def Room.depth (r:Room k A):A.depth<recursionLimit:=by have:=r.dp;omega
def  Js:TA:=λ_ H Q=>Q [] H
def  Jt (ta:TE) (tr:TA):TA:=λσ H Q=>ta σ H λx H1=>tr σ H1 λxs H2=>Q (x::xs) H2
section
variable {X:Cx} {e:Expr} {es:Od} {te:TE} {t:TA} {pos:Pos}
def pa_nil:PA X [] Js:=λ_ _ _ _ H Q I h=>Calls.spliced_nil ⟨[],H,I,.nil,h⟩
def bq (ha:PE X e te) (hr:PA X es t) (hs:starEach (e::es) X.env=(false,eval e X.env)::starEach es X.env:=by rfl):PA X (e::es) (Jt te t):=by
 intro pos pins s σ H Q I h;rw[hs];show wpAny _ _ (spliced ((false,eval e X.env)::backTo pos (starEach es X.env))) _ _ s;refine Calls.spliced_cons (thn (ha pins s σ H _ I h) λu s1 ⟨x,H1,I1,r1,q1⟩=>?_);exact thn (hr pos pins s1 σ H1 _ I1 q1) λus s2 ⟨xs,H2,I2,r2,q2⟩=>⟨x::xs,H2,I2,.cons r1 r2,q2⟩
def  Mo (t:TA):TE:=λσ H Q=>t σ H λxs H1=>xs.length<=sizeLine/\∀p,H1 p=none->Q (.ref p) (upd H1 p (.tup xs))
def  Mp (t:TA):TE:=λσ H Q=>t σ H λxs H1=>xs.length<=sizeLine/\∀p,H1 p=none->Q (.ref p) (upd H1 p (.lst xs))
def uD {x1} (h:PA X es t):PE X (.Tuple es x1 pos) (Mo t):=by
 intro pins s σ H Q I hq;refine wpAny_Tuple_spliced (thn (h pos pins s σ H _ I hq) λus s1 ⟨xs,H1,I1,r,z,q⟩=>⟨by rw[<-r.length];exact z,?_⟩);have hf:=I1.hok.fresh (OF _);refine⟨.ref s1.heap.objs.size,upd H1 s1.heap.objs.size _,I1.laid (λb u e=>Oh _ e) (OF _) ?_,rfl,q _ hf⟩;exact⟨z,us,r,⟨_,Ol _ rfl,rfl,_,rfl⟩⟩
def zm (h:PA X es t):PE X (.List es pos) (Mp t):=by
 intro pins s σ H Q I hq;refine wpAny_List_spliced (thn (h pos pins s σ H _ I hq) λus s1 ⟨xs,H1,I1,r,z,q⟩=>⟨by rw[<-r.length];exact z,?_⟩);have hf:=I1.hok.fresh (OF _);refine⟨.ref s1.heap.objs.size,upd H1 s1.heap.objs.size _,I1.laid (λb u e=>Oh _ e) (OF _) ?_,rfl,q _ hf⟩;exact⟨z,us,0,r,Ol _ rfl⟩
end
abbrev Sp:=List V->Hp->VK->XK->Prop
abbrev CXT:=List Env->Hp->Shared->XK->N4
structure Env0 (P:Program) (w:World) (K:Frag) (mg:Str->N6) (base:Heap) (A:Around) (outer:List Env) (s:Shared) (H:Hp):Prop where
 frames:A.frames=!outer
 mod:Mod K mg base
 bs:∀b o,base.get? b=!o->s.heap.get? b=!o/\H b=none
 bsz:base.objs.size<=s.heap.objs.size
 funs:s.heap.FunFrames base outer
 frf:(∀b∈frs outer,H b=none)/\GT H
 hok:HOk P w H s.heap
 bare:AllBare s.gens
def  CE (outer:List Env) (P:Program) (w:World) (H:Hp) (s:Shared) (Q:VK) (u:Value) (s':Shared):Prop:=
 ∃v H',s'.os=s.os/\AllBare s'.gens/\Un (frs outer) [] H H' s.heap s'.heap/\HOk P w H' s'.heap/\RelV v u/\Q v H'
def  CR (CX:CXT) (outer:List Env) (P:Program) (w:World) (H:Hp) (s:Shared) (Q:VK) (E:XK) (r:Result) (s':Shared):Prop:=
 match r with
 |.ok (.ret u)=>CE outer P w H s Q u s'
 |.ok _=>False
 |.error e=>CX outer H s E e s'
structure FnOk (P:Program) (w:World) (K:Frag) (mg:Str->N6) (base:Heap) (CX:CXT) (k:Nat) (f:Addr) (fd:FuncData) (ps:N8) (sp:Sp):Prop where
 len:∀vs H Q E,sp vs H Q E->vs.length=ps.length
 run:∀ (A:Around) (outer:List Env) (s:Shared) (H:Hp) (args:Args) (us:N5) (vs:List V) (Q:VK) (E:XK),Room k A->Env0 P w K mg base A outer s H->BindsTo s fd args (ps.zip us)->Vals vs us->sp vs H Q E->
  codeAny (model P w) A (.call (.ref f) args) (CR CX outer P w H s Q E) s
def FnOk.imp {K} (F:FnOk P w K mg base CX k f fd ps sp) (h:∀vs H Q E,sp' vs H Q E->sp vs H Q E):FnOk P w K mg base CX k f fd ps sp':=
 ⟨λvs H Q E q=>F.len vs H Q E (h _ _ _ _ q),λA outer s H args us vs Q E hr he hb hv hs=>F.run A outer s H args us vs Q E hr he hb hv (h _ _ _ _ hs)⟩
def Env0.make {K} (e:Env0 P w K mg base A outer s H) (C:Addr) (us:N5) (kw:List (Str×Value)):
 Env0 P w K mg base (A.under (.builtin "type.__call__" ⟨.ref C::us,kw⟩)) outer s H:=⟨by first|exact e.frames|(simpa [Around.under,Code.envs,Code.isFrame,pushEnvs] using e.frames),e.mod,e.bs,e.bsz,e.funs,e.frf,e.hok,e.bare⟩
section
variable {X:Cx} {pins:N1} {σ:St} {H:Hp} {s s':Shared}
def Inv.env0 (I:Inv X pins σ H s):Env0 X.prog X.w X.K X.mg X.base X.A X.stack s H:=
 ⟨I.ok.frames,I.ok.mod,I.bs,Ov I.ok.bsz I.sz,I.stack,⟨I.stkFree,I.tab⟩,I.hok,I.bare⟩
def Inv.after (I:Inv X pins σ H s) (h:CE X.stack X.prog X.w H s Q u s'):EP X pins σ Q u s':=by
 let⟨v,H',os,bare,un,hok,r,q⟩:=h;let⟨hh,g,d,t,os'⟩:=s';obtain rfl:os'=s.os:=os;exact⟨v,H',I.call un hok bare (λb z=>absurd z (by simp)),r,q⟩
end
def  Ju (sp:Sp) (dvs:List V) (E:XK) (t:TA):TE:=λσ H Q=>t σ H λvs H1=>sp (vs++dvs) H1 Q E
def  Jv (C:Addr) (m:Str) (sp:Sp) (dvs:List V) (E:XK) (ta:TE) (t:TA):TE:=λσ H Q=>ta σ H λx H1=>∃a dx fs,x=.ref a/\H1 a=!(.ins C dx fs)/\fs.lookup m=none/\
 t σ H1 λvs H2=>sp (x::(vs++dvs)) H2 Q E
def  Jw (C:Addr) (sp:Sp) (dvs:List V) (E:XK) (t:TA):TE:=λσ H Q=>t σ H λvs H1=>∀x dx,H1 x=none->H1 dx=none->dx≠x->
 sp (.ref x::(vs++dvs)) (upd (upd H1 dx (.own x)) x (.ins C dx [])) (λv H2=>v=.non/\Q (.ref x) H2) E
def  Binds (K:Frag) (fd:FuncData) (ps:N8) (ds:N5):Prop:=
 ∀ (s:Shared) (us:N5),K.In s.heap->(us++ds).length=ps.length->BindsTo s fd ⟨us,[]⟩ (ps.zip (us++ds))
def Binds.all {K} (h:∀us:N5,us.length=ps.length->bindArgs fd ⟨us,[]⟩=pure (ps.zip us)):Binds K fd ps []:=λs us _ hl=>by
 rw[List.append_nil]at hl⊢;exact .of_eq (h us hl)
def  j2 (CX:CXT) (X:Cx) (E:XK):Prop:=∀ (pins:N1) (σ:St) (H:Hp) (s:Shared) (e:Value) (s':Shared),Inv X pins σ H s->CX X.stack H s E e s'->X.xe e s'
section
variable {X:Cx} {CX:CXT} {k:Nat} {f C:Addr} {fd:FuncData} {ps:N8} {sp:Sp} {dvs:List V} {ds:N5} {E:XK} {x m:Str} {p pos apos:Pos} {e o:Expr} {es:Od} {ta:TE} {t:TA}
def zo {σ:St} (F:FnOk X.prog X.w X.K X.mg X.base CX k f fd ps sp) (hr:Room k X.A) (hb:Binds X.K fd ps ds) (hd:Vals dvs ds) (hx:j2 CX X E) (I:Inv X pins σ H s) (r:Vals vs us) (h:sp (vs++dvs) H Q E):wpAny (!4) X.A (call (.ref f) us) (EP X pins σ Q) X.xe s:=by
 have r2:=r.append hd;have hl:(us++ds).length=ps.length:=by rw[<-r2.length];exact F.len _ _ _ _ h
 refine wpAny_call (codeAny_mono (F.run X.A X.stack s H ⟨us,[]⟩ _ _ Q E hr I.env0 (hb s us I.kIn hl) r2 h) λr s' hq=>?_);cases r with
 |error e=>exact hx pins σ H s e s' I hq
 |ok fl=>
  cases fl with
  |ret u=>exact I.after hq
  |next=>exact False.elim hq
  |brk=>exact False.elim hq
  |cont=>exact False.elim hq
def qy (F:FnOk X.prog X.w X.K X.mg X.base CX k f fd ps sp) (hr:Room k X.A) (hg:Gl X x) (hm:X.mg x=!(.ref f)) (hk:PySem.W.keepIn X.K (.ref f)=true) (hb:Binds X.K fd ps ds) (hd:Vals dvs ds) (hx:j2 CX X E)
  (ha:PA X (e::es) t) (hdb:(!7)=false:=by decide) (he:starEach (e::es) X.env=(false,eval e X.env)::starEach es X.env:=by rfl) (hpl:(!15).any (·.1)=false:=by rfl):
  PE X (!17) (Ju sp dvs E t):=by
 intro pins s σ H Q I h
 refine wpAny_Call_Name_kw (qv I hg hm ?_ hdb)
 refine PySem.W.callWith_K I.ok.mod.kin hk (thn (ha pos pins s σ H _ I h) λus s1 ⟨vs,H1,I1,r,q⟩=>⟨I1.kIn,?_⟩) he hpl
 exact zo F hr hb hd hx I1 r q
def zp (he : PE X o ta) (c : Cls X.K C) (hm : Meth X.K C m f) (F : FnOk X.prog X.w X.K X.mg X.base CX k f fd ps sp) (hr : Room k X.A) (hb : Binds X.K fd ps ds) (hd : Vals dvs ds) (hx : j2 CX X E) (ht : eval (.Call (.Attribute o m apos) [] [] pos) X.env = (do
   let ov <- eval o X.env
   standAt apos.atName
   let (f,first) <- holding [ov] (getMethod ov m pl)
   callWith pos f first (backTo pos (starEach [] X.env)) (backToKw pos (keywordEach [] X.env))):=by rfl) :
  PE X (.Call (.Attribute o m apos) [] [] pos) (Jv C m sp dvs E ta Js):=by
 intro pins s σ H Q I h
 refine PySem.W.methodCall_KW (thn (he pins s σ H _ I h) fun u s1 ⟨x,H1,I1,rx,a,dx,fs,ex,ea,l,q⟩=>?_) ht
 subst ex
 obtain rfl:u = Value.ref a:=rx
 refine uz I1 ea c hm l ?_
 exact PySem.W.callWith_K0 I1.kIn hm.kp (zo (vs:=[.ref a]) F hr hb hd hx I1 (.cons rfl .nil) q)
structure Mk (K:Frag) (C f:Addr):Prop where
 makes:PySem.W.makesIn K C=true
 init:findIn K (.ref C) "__init__"=!(!(.ref f))
 fn:PySem.W.isFn K (.ref f)=true
 kp:PySem.W.keepIn K (.ref C)=true
def zq {σ:St} (M:Mk X.K C f) (F:FnOk X.prog X.w X.K X.mg X.base CX k f fd ps sp) (hr:Room (k+1) X.A) (hb:Binds X.K fd ps ds) (hd:Vals dvs ds) (hx:j2 CX X E) (I:Inv X pins σ H s) (r:Vals vs us) (h:∀x dx,H x=none->H dx=none->dx≠x->sp (.ref x::(vs++dvs)) (upd (upd H dx (.own x)) x (.ins C dx [])) (λv H2=>v=.non/\Q (.ref x) H2) E):
  wpAny (!4) X.A (call (.ref C) us) (EP X pins σ Q) X.xe s:=by
 have hq:=h _ s.heap.objs.size (I.hok.fresh (Nat.le_succ _)) (I.hok.fresh (OF _)) (Ow (Nat.lt_succ_self _))
 have I2:=Inv.made (C:=C) I
 have r2:Vals (V.ref (!13)::(vs++dvs)) (Value.ref (!13)::(us++ds)):=.cons rfl (r.append hd)
 have hl:(Value.ref (!13)::us++ds).length=ps.length:=by
  have e:=r2.length;rw[F.len _ _ _ _ hq]at e;exact e.symm
 refine wpAny_call (zi I.kIn M.makes M.init (beq_iff_eq.mp M.fn) (codeAny_mono (F.run _ X.stack _ _ ⟨Value.ref _::us,[]⟩ (Value.ref _::(us++ds)) _ _ E (hr.make C us [])
  (I2.env0.make C us []) (hb _ (Value.ref _::us) I2.kIn hl) r2 hq) λr s' hq'=>?_))
 cases r with
 |error e=>exact hx pins σ _ _ e s' I2 hq'
 |ok fl=>
  cases fl with
  |ret u=>
   let⟨v,H',I3,rv,ev,q3⟩:=I2.after hq';subst ev;exact⟨rv,⟨V.ref _,H',I3,rfl,q3⟩⟩
  |next=>exact False.elim hq'
  |brk=>exact False.elim hq'
  |cont=>exact False.elim hq'
def CQ (M:Mk X.K C f) (F:FnOk X.prog X.w X.K X.mg X.base CX k f fd ps sp) (hr:Room (k+1) X.A) (hg:Gl X x) (hm:X.mg x=!(.ref C)) (hb:Binds X.K fd ps ds) (hd:Vals dvs ds) (hx:j2 CX X E)
  (ha:PA X (e::es) t) (hdb:(!7)=false:=by decide) (he:starEach (e::es) X.env=(false,eval e X.env)::starEach es X.env:=by rfl) (hpl:(!15).any (·.1)=false:=by rfl):
  PE X (!17) (Jw C sp dvs E t):=by
 intro pins s σ H Q I h
 refine wpAny_Call_Name_kw (qv I hg hm ?_ hdb)
 refine PySem.W.callWith_K I.ok.mod.kin M.kp (thn (ha pos pins s σ H _ I h) λus s1 ⟨vs,H1,I1,r,q⟩=>⟨I1.kIn,?_⟩) he hpl
 exact zq M F hr hb hd hx I1 r q
end
section
variable {X:Cx} {CX:CXT} {k:Nat} {f C:Addr} {fd:FuncData} {ps ks:N8} {sp:Sp} {E:XK} {x m:Str} {p pos apos kpos:Pos} {e o:Expr} {es:Od} {kws:List Keyword} {te ta:TE} {t tk:TA} {nm:Option Str}
variable {g:N5->N5->N5} {gV:List V->List V->List V}
end
structure FnScope (N P:N8) (sc:Scope):Prop where
 kind:sc.kind=.function
 co:sc.isCoroutine=false
 gen:sc.isGenerator=false
 nd:N.Nodup
 pre:N.take P.length=P
 par:∀x∈P,sc.names.lookup x=some .local\/sc.names.lookup x=some .cell
 nofree:∀y∈sc.names,y.2≠.free
def pF {kindOf}:∀ {binds:List (Str×Value)} {m:Str->N6},(∀v,(x,v) ∉ binds)->bindL kindOf binds m x=m x
 |[],_,_=>rfl
 |(n,v)::r,m,h=>by
  unfold bindL;rw[pF λw hw=>h w (mem_cons_of_mem _ hw)];split
  .have:x≠n:=by rintro rfl;exact h v Oo
   simp[this]
  .rfl
def pG {kindOf}:∀ {binds:List (Str×Value)} {m:Str->N6},(∀v,(x,v) ∉ binds)->bindC kindOf binds m x=m x
 |[],_,_=>rfl
 |(n,v)::r,m,h=>by
  unfold bindC;rw[pG λw hw=>h w (mem_cons_of_mem _ hw)];split
  .rfl
  .have:x≠n:=by rintro rfl;exact h v Oo
   simp[this]
def pH {kindOf}:∀ {P:N8} {vs:N5} {i:Nat} {m:Str->N6},P.Nodup->P[i]?=!x->vs[i]?=!v->kindOf x=some .local->
  bindL kindOf (P.zip vs) m x=!v
 |[],_,_,_,_,h,_,_=>by simp at h
 |_::_,[],_,_,_,_,h,_=>by simp at h
 |p::P,w::vs,0,m,nd,h1,h2,hk=>by
  simp at h1 h2;subst h1;subst h2;show bindL kindOf ((p,w)::P.zip vs) m p=_;unfold bindL;rw[pF λv hv=>(List.nodup_cons.mp nd).1 (List.of_mem_zip hv).1,if_pos hk];simp
 |p::P,w::vs,i+1,m,nd,h1,h2,hk=>by
  show bindL kindOf ((p,w)::P.zip vs) m x=_;unfold bindL;exact pH (i:=i) (List.nodup_cons.mp nd).2 (by simpa using h1) (by simpa using h2) hk
def pI {kindOf}:∀ {P:N8} {vs:N5} {i:Nat} {m:Str->N6},P.Nodup->P[i]?=!x->vs[i]?=!v->kindOf x≠some .local->
  bindC kindOf (P.zip vs) m x=!v
 |[],_,_,_,_,h,_,_=>by simp at h
 |_::_,[],_,_,_,_,h,_=>by simp at h
 |p::P,w::vs,0,m,nd,h1,h2,hk=>by
  simp at h1 h2;subst h1;subst h2;show bindC kindOf ((p,w)::P.zip vs) m p=_;unfold bindC;rw[pG λv hv=>(List.nodup_cons.mp nd).1 (List.of_mem_zip hv).1,if_neg hk];simp
 |p::P,w::vs,i+1,m,nd,h1,h2,hk=>by
  show bindC kindOf ((p,w)::P.zip vs) m x=_;unfold bindC;exact pI (i:=i) (List.nodup_cons.mp nd).2 (by simpa using h1) (by simpa using h2) hk
noncomputable def  iK (N:N8) (vs:List V):St:=vs.map some++List.replicate (N.length-vs.length) none
def  mB (CX:CXT) (P:Program) (w:World) (K:Frag) (mg:Str->N6) (base:Heap) (N:N8) (qual:Str) (scope:Scope) (f:Addr) (cd:Value) (A:Around) (outer:List Env) (s:Shared) (H:Hp) (E:XK):Cx where
 prog:=P
 w:=w
 K:=K
 mg:=mg
 base:=base
 A:=A.deeper (envOfC qual scope s.heap.objs.size f cd)
 N:=N
 s₀:=s
 H₀:=H
 env:=envOfC qual scope s.heap.objs.size f cd
 outer:=outer
 stack:=envOfC qual scope s.heap.objs.size f cd::outer
 ex:=[]
 calm:=true
 fn:=λ_=>true
 pn:=[]
 xe:=λe s'=>wpAny (model P w) (A.deeper (envOfC qual scope s.heap.objs.size f cd)) (leaving (envOfC qual scope s.heap.objs.size f cd) e) (λ_ s''=>CX outer H s E e s'') (λe' s''=>CX outer H s E e' s'') s'
def su {sc:Scope} (h:sc.names.lookup x=some .cell):∃c,(cellsFrom n sc.names []).lookup x=!c:=by
 have q:=PySem.W.cellsFrom_some sc.names n [] (.inl h);exact Option.isSome_iff_exists.mp q
def xK {K} (S:FnScope N ps scope) (hd:A.handled=none) (e0:Env0 P w K mg base A outer s H) (hl:vs.length=ps.length) (r:Vals vs us) (x:InCallC s s.heap.objs.size (bindL (envOfC qual scope s.heap.objs.size f cd).kindOf (ps.zip us) λ_=>none) (cellsFrom (!13) scope.names []) (bindC (envOfC qual scope s.heap.objs.size f cd).kindOf (ps.zip us) λ_=>none) s1):
  Inv (mB CX P w K mg base N qual scope f cd A outer s H E) [] (iK N vs) H s1:=by
 have hpl:ps.length<=N.length:=by have:=congrArg List.length S.pre;rw[List.length_take]at this;omega
 let⟨h1,tk,rfl,hk⟩:=x.done
 have noA:∀b:Addr,b ∉ (mB CX P w K mg base N qual scope f cd A outer s H E).ex:=λb z=>absurd (show b∈([]:List Addr)from z) (by simp)
 refine⟨⟨e0.mod,S.kind,rfl,rfl,OF _,λy z c h1 h2=>?_,λy hy=>?_,λy c _ h=>?_,λ_=>hd,Around.frames_deeper e0.frames,.inr ⟨rfl,rfl⟩,λb z=>absurd z (noA b),e0.bs,e0.bsz,λb _ _=>noA b,λb z=>absurd z (noA b),e0.funs,e0.frf⟩,
  rfl,e0.bare,Un.kept hk,⟨_,x.toInCall.ns,λi y v h1 h2 h3=>?_⟩,λy c h=>⟨_,x.cell y c h⟩,e0.hok.fresh (OF _),λy c h=>?_,λp hp=>absurd (show p∈([]:N1)from hp) (by simp),e0.hok.kept hk,?_⟩
 .exact name_of_addr x.apart (PySem.mem_of_lookup h1) (PySem.mem_of_lookup h2)
 .have hy:scope.names.lookup y=some .cell\/scope.names.lookup y=some .free:=hy;rcases hy with hy|hy
  .exact su hy
  .exact absurd rfl (S.nofree _ (PySem.mem_of_lookup hy))
 .exact OC (x.above y c (PySem.mem_of_lookup h))
 .have hi:i<vs.length:=by
   unfold iK at h2;by_cases hi:i<vs.length
   .exact hi
   .rw[getElem?_append_right (by simpa using hi)]at h2;rw[List.getElem?_replicate]at h2;split at h2<;>cases h2
  have ha:vs[i]?=!v:=by
   unfold iK at h2;rw[getElem?_append_left (by simpa using hi),getElem?_map]at h2;cases e:vs[i]? with
   |none=>rw[e]at h2;cases h2
   |some a=>rw[e]at h2;cases h2;rfl
  let⟨u,hu,rv⟩:=r.get ha;have hp:ps[i]?=!y:=by
   rw[<-S.pre,List.getElem?_take_of_lt (!1)];exact h1
  have ndP:ps.Nodup:=by rw[<-S.pre];exact S.nd.sublist (List.take_sublist _ _)
  refine⟨u,rv,?_⟩;rcases S.par y (OE hp)with k|k
  .exact .inl ⟨k,pH ndP hp hu k⟩
  .let⟨c,e⟩:=su k;refine .inr ⟨.inl k,c,e,?_⟩;have q:=x.cell y c e;rw[pI ndP hp hu (by show scope.names.lookup y≠_;rw[k];decide)]at q;exact q
 .exact e0.hok.fresh (OC (x.above y c (PySem.mem_of_lookup h)))
 .unfold iK;show _=N.length;rw[length_append,length_map,List.length_replicate];omega
def Fe {K} {dV kV doc pm cdv ct oc} (lk:K.lookup f=!⟨oc,od,.func (PySem.W.fnOf name qual params body scope dV kV doc pm an cdv ct),osl⟩) (hcd:PySem.W.codeIn K cdv qual=true) (S:FnScope N ps scope) (len:∀vs H Q E,sp vs H Q E->vs.length=ps.length) (hbody:∀ (A:Around) (outer:List Env) (s:Shared) (H:Hp) (vs:List V) (Q:VK) (E:XK),Room k (A.deeper (envOfC qual scope s.heap.objs.size f cdv))->sp vs H Q E->
   ∃t,PSs (mB CX P w K mg base N qual scope f cdv A outer s H E) body t/\t {nx:=λ_ H'=>Q .non H',rt:=Q} (iK N vs) H):
  FnOk P w K mg base CX (k+1) f (PySem.W.fnOf name qual params body scope dV kV doc pm an cdv ct) ps sp:=by
 refine⟨len,λA outer s H args us vs Q E hr e0 hb r hsp=>?_⟩
 have hl:=len _ _ _ _ hsp
 have KX:=e0.mod.kin.keeps λb o e=>(e0.bs b o e).1
 have lim:=e0.mod.nolimit.keeps λb o e=>(e0.bs b o e).1
 have hkind:∀y∈ps.zip us,scope.names.lookup y.1=some .local\/(scope.names.lookup y.1=some .cell/\((cellsFrom (!13) scope.names []).lookup y.1).isSome=true):=λ⟨n,v⟩ hy=>by
  rcases S.par n (List.of_mem_zip hy).1 with q|q
  .exact .inl q
  .exact .inr ⟨q,PySem.W.cellsFrom_some _ _ _ (.inl q)⟩
 refine codeAny_call_function hr.depth (KX _ _ lk) rfl S.co S.gen rfl (PySem.W.codeRec_of KX hcd) (hb _ _ _ _ ?_)
 refine wpAny_newFunctionEnv_cells S.kind hkind λenv he s1 x=>?_
 subst he
 refine⟨lim.keeps x.toInCall.keep,codeAny_func ?_⟩
 let⟨t,ht,hq⟩:=hbody A outer s H vs Q E (hr.deeper _) hsp
 have I:Inv (mB CX P w K mg base N qual scope f cdv A outer s H E) [] (iK N vs) H s1:=xK S hr.hd e0 hl r x
 refine OG (ht [] s1 _ H _ I hq) (λfl s' hs=>?_) λe s' hs=>hs
 have fin:∀ {σ':St} {H':Hp} {v:V} {u:Value},Inv (mB CX P w K mg base N qual scope f cdv A outer s H E) [] σ' H' s'->RelV v u->Q v H'->CE outer P w H s Q u s':=
  λ{σ' H' v u} J rv q=>⟨v,H',J.os,J.bare,J.base,J.hok,rv,q⟩
 cases fl with
 |ret u=>
  let⟨v,σ',H',J,rv,q⟩:=hs;exact fin J rv q
 |next=>
  let⟨σ',H',J,q⟩:=hs;exact fin (v:=V.non) J rfl q
 |brk=>
  let⟨_,_,_,q⟩:=hs;exact False.elim q
 |cont=>
  let⟨_,_,_,q⟩:=hs;exact False.elim q
section
variable {X:Cx} {x:Str} {p pos:Pos} {e:Expr} {es:Od} {t:TA} {id T:String} {r:List V->Hp->VK->Prop}
def  tCB (r:List V->Hp->VK->Prop) (t:TA):TE:=λσ H Q=>t σ H λvs H1=>r vs H1 Q
def mC (hc:fG X (.builtin id) r) (hg:Gl X x) (hm:X.mg x=none) (hv:bootBuiltins x=!(.builtin id)) (ha:PA X (e::es) t) (hn:x≠"__name__":=by decide) (hdb:(!7)=false:=by decide)
  (he:starEach (e::es) X.env=(false,eval e X.env)::starEach es X.env:=by rfl) (hpl:(!15).any (·.1)=false:=by rfl):PE X (!17) (tCB r t):=by
 intro pins s σ H Q I h
 refine wpAny_Call_Name_kw (cE I hg hm hv ?_ hn hdb)
 exact PyProof.Rows.callWith_builtin1 (thn (ha pos pins s σ H _ I h) λus s1 ⟨vs,H1,I1,r1,q1⟩=>hc pins s1 σ H1 vs us Q I1 r1 q1) he hpl
def pJ (hc:fG X (.type T) r) (hg:Gl X x) (hm:X.mg x=none) (hv:bootBuiltins x=!(.type T)) (ha:PA X (e::es) t) (hn:x≠"__name__":=by decide) (hdb:(!7)=false:=by decide)
  (he:starEach (e::es) X.env=(false,eval e X.env)::starEach es X.env:=by rfl) (hpl:(!15).any (·.1)=false:=by rfl):PE X (!17) (tCB r t):=by
 intro pins s σ H Q I h
 refine wpAny_Call_Name_kw (cE I hg hm hv ?_ hn hdb)
 exact PyProof.Rows.callWith_type1 (thn (ha pos pins s σ H _ I h) λus s1 ⟨vs,H1,I1,r1,q1⟩=>hc pins s1 σ H1 vs us Q I1 r1 q1) he hpl
end
end L2
namespace HT
open PySem PyProof.Rows
noncomputable def  lexLt:N9->N9->Bool
 |[],[]=>false
 |[],_::_=>true
 |_::_,[]=>false
 |x::xs,y::ys=>if x=y then lexLt xs ys else decide (x<y)
def lexLt_cons (x y:Int) (xs ys:N9):lexLt (x::xs) (y::ys)=if x=y then lexLt xs ys else decide (x<y):=rfl
def iL:lexLt [] []=false:=rfl
def gy (y:Int) (ys:N9):lexLt [] (y::ys)=true:=rfl
def gz (x:Int) (xs:N9):lexLt (x::xs) []=false:=rfl
def sv (A:Around) (s:Shared) (a:Int) (t:Tok) (c:Int) (u:Tok):∃e,SeqAt.EqAt A s (.int a t) (.int c u) e/\(e=true↔a=c):=
 ⟨(a==c),SeqAt.EqAt.int_int a t c u,by simp⟩
def zr (A:Around) (s:Shared) (a:Int) (t:Tok) (c:Int) (u:Tok) (prog:Program) (w:World) (E:N4) (Q:N4) (h:Q (.bool (decide (a<c))) s):
  wpAny (!6) A (richCompare .Lt (.int a t) (.int c u)) Q E s:=
 (PyProof.Rows.lt_int h:wpAny _ A (compareOp .Lt _ _) Q E s)
section
open PySem.SeqAt
open PySem.AutoSeq1 (wpAny_loadPart')
open PySem.MeetsSeq PySem.MeetsSeq2 PySem.MeetsSeq3
def oA (l b:Addr) (items items2:Ob) (n n2:Nat) (dd dd2:Option Addr) (sl sl2:Array (N6)) (ns ms:N9) (hi:IntsAre items.toList ns) (hj:IntsAre items2.toList ms):
  Meets (Builtin.«tuple.__lt__» ⟨[.ref l,.ref b],[]⟩)
   (λ_ R s=>s.heap.get? l=some {cls:=.type "tuple",dict:=dd,data:=.seq items n,slots:=sl}/\s.heap.get? b=some {cls:=.type "tuple",dict:=dd2,data:=.seq items2 n2,slots:=sl2}/\
    R (.ok (.ret (.bool (lexLt ns ms)))) s):=
 .of_wp λprog w A R s h=>by
  let⟨hp,g,d,tk,os⟩:=s;let⟨hl,hb,h⟩:=h;have f2:=AutoSeq1.sub_tuple_tuple;have z1:items.size=ns.length:=by rw[<-hi.length];simp
  have z2:items2.size=ms.length:=by rw[<-hj.length];simp
  wp_walk using wpAny_loadPart' hl,wpAny_loadPart' hb,wpAny_forIn_list _ (λrest b s'=>b.1=none/\s'=⟨hp,g,d,tk,os⟩/\∃ (vs ws:N5) (ns' ms':N9),rest=vs.zip ws/\
   IntsAre vs ns'/\IntsAre ws ms'/\ns'.length+items2.size=ms'.length+items.size/\R (.ok (.ret (.bool (lexLt ns' ms')))) ⟨hp,g,d,tk,os⟩) _
  case turn=>
   rintro⟨y,x⟩ rest b s' ⟨hb',rfl,vs,ws,ns',ms',hz,hvi,hwi,hlen,hR⟩;cases hvi with
   |nil=>rw[List.zip_nil_left]at hz;cases hz
   |cons a t hvi'=>
    cases hwi with
    |nil=>rw[List.zip_nil_right]at hz;cases hz
    |cons c u hwi'=>
     rw[List.zip_cons_cons]at hz;injection hz with hyx hrest;injection hyx with hy hx;subst hy hx;rw[lexLt_cons]at hR;simp only[length_cons]at hlen;let⟨e,he,hiff⟩:=sv A.in1 ⟨hp,g,d,tk,os⟩ a t c u;refine Og (he prog w _ _ ?_);cases e with
     |true=>
      rw[if_pos (hiff.mp rfl)]at hR;wp_walk;exact⟨rfl,rfl,_,_,_,_,hrest,hvi',hwi',by omega,hR⟩
     |false=>
      rw[if_neg (λq=>absurd (hiff.mpr q) Bool.false_ne_true)]at hR;have hri:=zr A.in1 ⟨hp,g,d,tk,os⟩ a t c u prog w;wp_walk using hri;exact⟨_,rfl,by simpa using hR⟩
  case fin=>
   rintro⟨b1,b2⟩ s' ⟨hb',rfl,vs,ws,ns',ms',hz,hvi,hwi,hlen,hR⟩;simp only at hb';subst hb';have hv:lexLt ns' ms'=decide (items.size<items2.size):=by
    cases hvi with
    |nil=>
     cases hwi with
     |nil=>
      simp only[List.length_nil]at hlen;rw[iL];exact(decide_eq_false (!1)).symm
     |cons c u hw=>
      simp only[List.length_nil,length_cons]at hlen;rw[gy];exact(decide_eq_true (!1)).symm
    |cons a t hv=>
     cases hwi with
     |nil=>
      simp only[List.length_nil,length_cons]at hlen;rw[gz];exact(decide_eq_false (!1)).symm
     |cons c u hw=>
      rw[List.zip_cons_cons]at hz;cases hz
   rw[hv]at hR;wp_walk;exact⟨_,rfl,by simpa [Builtin.Tuple.tupleCompareSizes] using hR⟩
  case h=>
   exact⟨rfl,rfl,items.toList,items2.toList,ns,ms,rfl,hi,hj,by omega,h⟩
end
section
variable {prog:Program} {w:World} {A:Around} {E:N4} {s:Shared}
def lt_tupInts (hl:IsTup s.heap l items) (hb:IsTup s.heap b items2) (hi:IntsAre items.toList ns) (hj:IntsAre items2.toList ms) (hu:A.units<cLine) (h:Q (.bool (lexLt ns ms)) s):wpAny (!6) A (compareOp .Lt (.ref l) (.ref b)) Q E s:=by
 let⟨⟨cls,dd,data,sl⟩,ho,hc,n,hd⟩:=id hl;let⟨⟨cls2,dd2,data2,sl2⟩,ho2,hc2,n2,hd2⟩:=id hb;subst hc hd hc2 hd2;exact richCompare_meets_room (op:=.Lt) ⟨_,ho,rfl⟩ ⟨_,ho2,rfl⟩ PySem.F.slot_tuple_lt PySem.F.entry_tuple_lt (PySem.F.args_tuple_lt_2 _ _) (oA l b items items2 n n2 dd dd2 sl sl2 ns ms hi hj)
  ⟨ho,ho2,show Value.bool (lexLt ns ms)≠Value.notImplemented/\Q (.bool (lexLt ns ms)) s from⟨(λx=>nomatch x),h⟩⟩ hu
def cat_tup (ht:IsTup s.heap t vs.toArray) (hb:IsTup s.heap b ws.toArray) (hv:vs≠[]) (h1:ws=[]->Q (.ref t) s) (h2:ws≠[]->Q (.ref s.heap.objs.size) {s with heap:=s.heap.push {cls:=.type "tuple",data:=.seq (vs++ws).toArray}}) (hsz:vs.length+ws.length<=sizeLine):wpAny (!6) A (binaryOp .Add (.ref t) (.ref b)) Q E s:=by
 let⟨⟨cls,dd,data,sl⟩,ho,hc,n,hd⟩:=id ht;let⟨⟨cls2,dd2,data2,sl2⟩,ho2,hc2,n2,hd2⟩:=id hb;subst hc hd hc2 hd2;have e:vs.toArray++ws.toArray=(vs++ws).toArray:=by simp
 by_cases hw:ws=[]
 .exact concat_meets ⟨_,ho,rfl⟩ ⟨_,ho2,rfl⟩ noFill_tuple_add seq_tuple_add PySem.F.slot_tuple_add PySem.F.entry_tuple_add (PySem.F.args_tuple_add_2 _ _)
   (tuple_addW1 t b vs.toArray ws.toArray n n2 dd dd2 sl sl2 (by simpa using hv) (by simp[hw])) ⟨ho,ho2,h1 hw⟩
 .refine concat_meets ⟨_,ho,rfl⟩ ⟨_,ho2,rfl⟩ noFill_tuple_add seq_tuple_add PySem.F.slot_tuple_add PySem.F.entry_tuple_add (PySem.F.args_tuple_add_2 _ _)
   (tuple_addW2 t b vs.toArray ws.toArray n n2 dd dd2 sl sl2 (by simpa using hv) (by simpa using hw) (by rw[size_toArray,size_toArray];exact hsz)) ⟨ho,ho2,?_⟩
  rw[e];exact h2 hw
noncomputable def  sIx (n d:Nat):Of->Nat
 |none=>d
 |some v=>if v<0 then(v+(n:Int)).toNat else min v.toNat n
def sIx_none (n d:Nat):sIx n d none=d:=rfl
def sIx_nat (n d k:Nat):sIx n d (!(k:Int))=min k n:=by grind [sIx]
def wb (v:Int) (n d:Nat):(if v<0 then max (v+(n:Int)) 0 else min v (n:Int))=((sIx n d (!v):Nat):Int):=by grind [sIx]
def uE (lo hi:Of) (n:Nat):Builtin.Slice.sliceAdjust lo hi 1 (n:Int)=(((sIx n 0 lo:Nat):Int),((sIx n n hi:Nat):Int)):=by
 refine Prod.ext ?_ ?_
 .cases lo with
  |none=>rfl
  |some v=>exact wb v n 0
 .cases hi with
  |none=>rfl
  |some v=>exact wb v n n
def uF (i j:Nat):Builtin.Slice.slicePlaces (i:Int) (j:Int) 1=j-i:=by
 unfold Builtin.Slice.slicePlaces;split<;>omega
def mD (p:IsPart v o) (h:Q o s):wpAny (!6) A (Builtin.Slice.slicePartIndex v) Q E s:=by
 cases p with
 |none=>exact slicePart_none h
 |int i t=>exact slicePart_int h
def sliceApplied_gen {lo hi} {Q:Int×Int×Nat->Shared->Prop} (hs:s.heap.IsSliceOf sl vl vu .none) (pl:IsPart vl lo) (pu:IsPart vu hi) (h:Q (((sIx n 0 lo:Nat):Int),1,sIx n n hi-sIx n 0 lo) s):wpAny (!6) A (Builtin.Slice.sliceApplied (.ref sl) (pure (n:Int))) Q E s:=by
 let⟨os,hos,hcs,hds⟩:=id hs;refine Og (Og (wpAny_field hos hds rfl (Og (wpAny_field hos hds rfl (Og (wpAny_field hos hds rfl (Oi ?_)))))));refine Og (slicePart_none ?_);refine Og (mD pl (Og (mD pu (Og (Oi ?_)))));show wpAny _ _ (match Builtin.Slice.sliceAdjust lo hi 1 (n:Int)with|(lo,hi)=>pure (lo,(1:Int),Builtin.Slice.slicePlaces lo hi 1)) _ _ s;rw[uE];show wpAny _ _ (pure (((sIx n 0 lo:Nat):Int),(1:Int),Builtin.Slice.slicePlaces ((sIx n 0 lo:Nat):Int) ((sIx n n hi:Nat):Int) 1)) _ _ s;rw[uF];exact Oi h
def zt (xs:Ob) (i k:Nat):((List.range k).filterMap λ(m:Nat)=>xs[((i:Int)+(m:Int)*1).toNat]?).toArray=((xs.toList.drop i).take k).toArray:=by
 have e:(λ(m:Nat)=>xs[((i:Int)+(m:Int)*1).toNat]?)=λm=>xs[i+m]?:=by
  funext m;have:((i:Int)+(m:Int)*1).toNat=i+m:=by omega
  rw[this]
 rw[e];have:=pick_run xs i k;rw[List.filterMap_map]at this;have e2:((λx=>xs[x]?)∘λx=>i+x)=λm=>xs[i+m]?:=rfl;grind
def getItem_tuple_cut {lo hi} (ht:IsTup s.heap t items) (hs:s.heap.IsSliceOf sl vl vu .none) (pl:IsPart vl lo) (pu:IsPart vu hi) (hw:¬ (sIx items.size 0 lo=0/\sIx items.size items.size hi=items.size)) (h:Q (.ref s.heap.objs.size) {s with heap:=s.heap.push {cls:=.type "tuple",data:=.seq ((items.toList.drop (sIx items.size 0 lo)).take (sIx items.size items.size hi-sIx items.size 0 lo)).toArray}}) (hsz:items.size<=sizeLine):wpAny (!6) A (getItem (.ref t) (.ref sl)) Q E s:=by
 have htake:sizeOk (.seq ((items.toList.drop (sIx items.size 0 lo)).take (sIx items.size items.size hi-sIx items.size 0 lo)).toArray):=by
  show((items.toList.drop (sIx items.size 0 lo)).take (sIx items.size items.size hi-sIx items.size 0 lo)).toArray.size<=sizeLine;rw[size_toArray,List.length_take,List.length_drop,Array.length_toList];omega
 let⟨os,hos,hcs,hds⟩:=id hs;have hTs:s.TypeIs (.ref sl) "slice":=⟨os,hos,hcs⟩;unfold getItem;try with_reducible refine wpAny_holding ?_
 first|refine Og (Oi ?_)|skip
 refine Og (wpAny_sequenceKey ht.typeIs (!5) ?_);refine Og (wpAny_callSpecial?_slot ht.typeIs PyProof.Rows.slot_tuple_getitem
  (wpAny_call_entry PyProof.Rows.slot_tuple_getitem ht.typeIs entry_tuple_getitem ?_ (args_tuple_getitem _ _)))
 show wpAny _ _ (Builtin.Tuple.tupleItemsOf (.ref t)>>=_) _ _ s;refine Og (tupleItemsOf_ ht ?_);refine Og (wpAny_typeOf hTs ?_);refine Og (sliceApplied_gen hs pl pu ?_);have hno:¬ ((((sIx items.size 0 lo:Nat):Int)==0&&(1:Int)==1&&(sIx items.size items.size hi-sIx items.size 0 lo)==items.size)=true):=by
  intro q;rw[and_eq_true,and_eq_true]at q;have q1:=eq_of_beq q.1.1;have q2:=eq_of_beq q.2;exact hw ⟨by omega,by omega⟩
 show wpAny _ _ (if(((sIx items.size 0 lo:Nat):Int)==0&&(1:Int)==1&&(sIx items.size items.size hi-sIx items.size 0 lo)==items.size)=true then _ else _) _ _ s;rw[if_neg hno,zt];first
  |exact Og (wpAny_newObj_type (Oi ⟨_,rfl,Oi h⟩) htake)
  |exact Og (wpAny_newObj_type (Og (Oi _)) htake)
  |exact Og (Og (wpAny_newObj_type (Oi _) htake))
  |exact Og (Og (wpAny_newObj_type _ htake))
end
end HT
namespace L2
open PySem PySem.Spec PyProof.Rows
noncomputable abbrev TO:=St->Hp->(Of->Hp->Prop)->Prop
def  PO (X:Cx) (e:Option Expr) (t:TO):Prop:=
 ∀ (pins:N1) (s:Shared) (σ:St) (H:Hp) (Q:Of->Hp->Prop),Inv X pins σ H s->t σ H Q->
  wpAny (!4) X.A (evalPart e X.env) (λu s'=>∃o H',Inv X pins σ H' s'/\IsPart u o/\Q o H') X.xe s
def  CS:TO:=λ_ H Q=>Q none H
def  Jx (t:TE):TO:=λσ H Q=>t σ H λx H1=>∃i,x=.int i/\Q (!i) H1
def dQ:∀ {us:N5},Vals (ns.map V.int) us->IntsAre us ns:=by
 induction ns with
 |nil=>intro us r;rw[List.map_nil]at r;cases r;exact .nil
 |cons n ns ih=>
  intro us r;cases r with
  |cons r1 r2=>
   let⟨t,e⟩:=r1;subst e;exact .cons n t (ih r2)
section
variable {X:Cx} {e:Expr} {te:TE} {lo hi:Option Expr} {tl th:TO} {pos p2:Pos}
def po_none:PO X none CS:=by
 intro pins s σ H Q I h;exact Oi ⟨none,H,I,.none,h⟩
def CT (h:PE X e te):PO X (!e) (Jx te):=by
 intro pins s σ H Q I hw;refine thn (h pins s σ H _ I hw) λu s1 ⟨x,H1,I1,r1,q1⟩=>?_;let⟨i,rfl,q⟩:=q1;let⟨t,rfl⟩:=r1;exact⟨!i,H1,I1,.int i t,q⟩
def  SlR (X:Cx) (r:V->Of->Of->Hp->VK->Prop):Prop:=
 ∀ (pins:N1) (s:Shared) (σ:St) (H:Hp) (x:V) (v vl vu:Value) (lo hi:Of) (sl:Addr) (Q:VK),Inv X pins σ H s->RelV x v->s.heap.IsSliceOf sl vl vu .none->IsPart vl lo->IsPart vu hi->r x lo hi H Q->
  ∃T id,typeLookup (.type T) "__getitem__"=pure (!(.builtin id))/\s.TypeIs v T/\wpAny (!4) X.A (getItem v (.ref sl)) (EP X pins σ Q) X.xe s
def SlR.or (h:SlR X r) (h':SlR X r'):SlR X (λx lo hi H Q=>r x lo hi H Q\/r' x lo hi H Q):=by
 intro pins s σ H x v vl vu lo hi sl Q I rx hs pl pu q;rcases q with q|q
 .exact h pins s σ H x v vl vu lo hi sl Q I rx hs pl pu q
 .exact h' pins s σ H x v vl vu lo hi sl Q I rx hs pl pu q
def  tSl (r:V->Of->Of->Hp->VK->Prop) (te:TE) (tl th:TO):TE:=λσ H Q=>te σ H λx H1=>tl σ H1 λl H2=>th σ H2 λu H3=>r x l u H3 Q
def sw (hr:SlR X r) (he:PE X e te) (hl:PO X lo tl) (hu:PO X hi th):PE X (.Subscript e (.Slice lo hi none p2) pos) (tSl r te tl th):=by
 intro pins s σ H Q I h;refine Subscript_ (thn (he pins s σ H _ I h) λv s1 ⟨x,H1,I1,r1,q1⟩=>?_);refine wpAny_Slice (thn (hl pins s1 σ H1 _ I1 q1) λvl s2 ⟨l,H2,I2,pl,q2⟩=>thn (hu pins s2 σ H2 _ I2 q2) λvu s3 ⟨u,H3,I3,pu,q3⟩=>?_);refine Oi ?_;have I4:Inv X pins σ H3 {s3 with heap:=s3.heap.push {cls:=.type "slice",data:=.fields #[vl,vu,.none]}}:=I3.kept λb ob q=>Oh _ q;let⟨T,id,hT,ht,hg⟩:=hr pins {s3 with heap:=s3.heap.push {cls:=.type "slice",data:=.fields #[vl,vu,.none]}} σ H3 x v vl vu l u s3.heap.objs.size Q I4 r1 (Heap.IsSliceOf.new ..) pl pu q3;exact tail_any ht hT hg (by with_unfolding_all rfl)
def  xL (xs:List V) (lo hi:Of):List V:=(xs.drop (HT.sIx xs.length 0 lo)).take (HT.sIx xs.length xs.length hi-HT.sIx xs.length 0 lo)
def kU (xs:List V) (lo hi:Of):(xL xs lo hi).length<=xs.length:=by
 unfold xL;rw[List.length_take,List.length_drop];omega
def  Mq (K:Frag):V->Of->Of->Hp->VK->Prop:=λx lo hi H Q=>∃a xs,x=.ref a/\SqT K H a xs/\
 ¬ (HT.sIx xs.length 0 lo=0/\HT.sIx xs.length xs.length hi=xs.length)/\∀p,H p=none->Q (.ref p) (upd H p (.tup (xL xs lo hi)))
def sl_tup:SlR X (Mq X.K):=by
 intro pins s σ H x v vl vu lo hi sl Q I rx hs pl pu h;let⟨a,xs,rfl,hx,hw,q⟩:=h;cases rx;let⟨its,r,ht,hz⟩:=I.tuple hx;have hlen:its.toArray.size=xs.length:=by rw[size_toArray];exact r.length.symm
 refine⟨"tuple",_,PyProof.Rows.slot_tuple_getitem.lookup,ht.typeIs,?_⟩;refine HT.getItem_tuple_cut ht hs pl pu (by rw[hlen];exact hw) ?_ (by rw[hlen];exact hz);rw[hlen];refine⟨.ref s.heap.objs.size,_,I.laid (λb ob q=>Oh _ q) (OF _) ?_,rfl,q _ (I.hok.fresh (OF _))⟩;exact⟨Ov (kU xs lo hi) hz,_,(r.drop _).take _,IsTup.new _ _⟩
def  Jy (K:Frag):R2:=λx y H Q=>∃a b ns ms,x=.ref a/\y=.ref b/\SqT K H a (ns.map V.int)/\SqT K H b (ms.map V.int)/\Q (.bl (HT.lexLt ns ms)) H
def zu (hu:X.A.units<cLine):OpR X (compareOp .Lt) (Jy X.K):=by
 intro pins s σ H x y v u Q I rx ry h;let⟨a,b,ns,ms,rfl,rfl,ha,hb,q⟩:=h;cases rx;cases ry;let⟨its,r1,p1,_⟩:=I.tuple ha;let⟨its2,r2,p2,_⟩:=I.tuple hb;have i1:=dQ r1;have i2:=dQ r2;exact HT.lt_tupInts p1 p2 i1 i2 hu ⟨.bl _,H,I,rfl,q⟩
def  Ff (K:Frag):R2:=λx y H Q=>∃a b xs ys,x=.ref a/\y=.ref b/\SqT K H a xs/\SqT K H b ys/\xs≠[]/\xs.length+ys.length<=sizeLine/\
 (ys=[]->Q (.ref a) H)/\(ys≠[]->∀p,H p=none->Q (.ref p) (upd H p (.tup (xs++ys))))
def Vals.nil_iff (r:Vals xs us):us=[]↔xs=[]:=by
 cases r with
 |nil=>simp
 |cons _ _=>simp
def CU:OpR X (binaryOp .Add) (Ff X.K):=by
 intro pins s σ H x y v u Q I rx ry h;let⟨a,b,xs,ys,rfl,rfl,ha,hb,hx,hz,q1,q2⟩:=h;cases rx;cases ry;let⟨its,r1,p1,_⟩:=I.tuple ha;let⟨its2,r2,p2,_⟩:=I.tuple hb;refine HT.cat_tup p1 p2 (λz=>hx (r1.nil_iff.mp z)) (λz=>⟨.ref a,H,I,rfl,q1 (r2.nil_iff.mp z)⟩) (λz=>?_) (by rw[<-r1.length,<-r2.length];exact hz);refine⟨.ref s.heap.objs.size,_,I.laid (λb ob q=>Oh _ q) (OF _) ?_,rfl,q2 (λw=>z (r2.nil_iff.mpr w)) _ (I.hok.fresh (OF _))⟩;exact⟨by rw[length_append];exact hz,_,r1.append r2,IsTup.new _ _⟩
end
noncomputable def  ixN (n:Nat) (i:Int):Option Nat:=if 0<=i then(if i<n then !i.toNat else none)else if -(n:Int)<=i then some (i+n).toNat else none
def  atI {α:Type} (xs:List α) (i:Int):Option α:=(ixN xs.length i).bind λj=>xs[j]?
def wc (h:ixN n i=!j):seqIndex? i n=!j/\j<n/\ -(n:Int)<=i/\i<n:=by
 unfold ixN at h;by_cases h0:0<=i
 .rw[if_pos h0]at h;by_cases h1:i<n
  .rw[if_pos h1]at h;have e:=Option.some.inj h;exact⟨by rw[seqIndex_of h0 h1,e],by omega,by omega,h1⟩
  .rw[if_neg h1]at h;cases h
 .rw[if_neg h0]at h;by_cases h1:-(n:Int)<=i
  .rw[if_pos h1]at h;have e:=Option.some.inj h;exact⟨by rw[seqIndex_neg (!1) h1,e],by omega,h1,by omega⟩
  .rw[if_neg h1]at h;cases h
def qz {v:α} (h:atI xs i=!v):∃j,seqIndex? i xs.length=!j/\xs[j]?=!v/\j<xs.length/\ -(xs.length:Int)<=i/\i<xs.length:=by
 unfold atI at h;cases e:ixN xs.length i with
 |none=>rw[e]at h;cases h
 |some j=>
  rw[e]at h;let⟨h1,h2,h3,h4⟩:=wc e;exact⟨j,h1,h,h2,h3,h4⟩
def  eG (b:Expr):Prop:=∀o i,subscripted b false o i=operate [o,i] (getItem o i)
def  IxR (X:Cx) (r:R2):Prop:=
 ∀ (value slice:Expr) (pins:N1) (s:Shared) (σ:St) (H:Hp) (x y:V) (v u:Value) (Q:VK),Inv X pins σ H s->RelV x v->RelV y u->r x y H Q->
  subscripted slice false v u=operate [v,u] (getItem v u)->wpAny (!4) X.A (subscriptTail value slice v u) (EP X pins σ Q) X.xe s
def  MtR (X:Cx) (id:String) (r:V->List V->Hp->VK->Prop):Prop:=
 ∀ (pins:N1) (s:Shared) (σ:St) (H:Hp) (x:V) (xs:List V) (v:Value) (us:N5) (Q:VK),Inv X pins σ H s->RelV x v->Vals xs us->r x xs H Q->
  wpAny (!4) X.A (call (.builtin id) (v::us)) (EP X pins σ Q) X.xe s
section
variable {X:Cx} {a b:Expr} {ta tb:TE} {pos:Pos}
def IxR.or (h:IxR X r) (h':IxR X r'):IxR X (λx y H Q=>r x y H Q\/r' x y H Q):=by
 intro value slice pins s σ H x y v u Q I rx ry q hs;rcases q with q|q
 .exact h value slice pins s σ H x y v u Q I rx ry q hs
 .exact h' value slice pins s σ H x y v u Q I rx ry q hs
def we (hr:IxR X r) (ha:PE X a ta) (hb:PE X b tb) (hs:eG b):PE X (.Subscript a b pos) (tOp r ta tb):=by
 intro pins s σ H Q I h;exact Subscript_ (F5 ha hb I h λv u s2 x y H2 I2 rx ry q=>hr a b pins s2 σ H2 x y v u Q I2 rx ry q (hs _ _))
def  Jz (K:Frag):R2:=λx y H Q=>∃p xs i v,x=.ref p/\y=.int i/\SqL K H p xs/\atI xs i=!v/\Q v H
def  JA (K:Frag):R2:=λx y H Q=>∃p xs i v,x=.ref p/\y=.int i/\SqT K H p xs/\atI xs i=!v/\Q v H
def  JB:R2:=λx y H Q=>∃z i c,x=.str z/\y=.int i/\z.length<=sizeLine/\atI z.cps.toList i=!c/\Q (.str ⟨#[c]⟩) H
def ix_list:IxR X (Jz X.K):=by
 intro value slice pins s σ H x y v u Q I rx ry h hs;let⟨p,xs,i,z,rfl,rfl,hq,he,q⟩:=h;cases rx;let⟨t,rfl⟩:=ry;let⟨its,r,pl,hz⟩:=I.list hq;let⟨j,h1,h2,h3,h4,h5⟩:=qz he;let⟨w,ew,rw'⟩:=r.get h2;have hl:=r.length;have hn:=iY;have fin:EP X pins σ Q w s:=⟨z,H,I,rw',q⟩;by_cases h0:0<=i
 .have hj:i.toNat=j:=by
   rw[seqIndex_of h0 h5]at h1;exact Option.some.inj h1
  exact item_listR pl.isList h0 (!1) (by rw[hj];simpa using ew) fin hs
 .have hj:(i+(its.toArray.size:Int)).toNat=j:=by
   rw[seqIndex_neg (!1) h4]at h1;rw[size_toArray,<-hl];exact Option.some.inj h1
  exact subscriptTail_builtinR pl.isList.typeIs slot_list_getitem.lookup
   (wpAny_getItem_list_neg pl.isList (!1) (by rw[size_toArray]<;>omega) (!1) (by rw[hj];simpa using ew) ⟨rfl,fin⟩) hs
def ix_tup:IxR X (JA X.K):=by
 intro value slice pins s σ H x y v u Q I rx ry h hs;let⟨p,xs,i,z,rfl,rfl,hq,he,q⟩:=h;cases rx;let⟨t,rfl⟩:=ry;let⟨its,r,pl,hz⟩:=I.tuple hq;let⟨j,h1,h2,h3,h4,h5⟩:=qz he;let⟨w,ew,rw'⟩:=r.get h2;have hl:=r.length;have hn:=iY;have fin:EP X pins σ Q w s:=⟨z,H,I,rw',q⟩;exact subscriptTail_builtinR pl.typeIs slot_tuple_getitem.lookup
  (getItem_tuple pl (!1) (!1) (by rw[size_toArray,<-hl];exact h1) (by simpa using ew) ⟨rfl,fin⟩) hs
def Ge:IxR X JB:=by
 intro value slice pins s σ H x y v u Q I rx ry h hs;let⟨z,i,c,rfl,rfl,hz,he,q⟩:=h;let⟨t,rfl⟩:=rx;let⟨t',rfl⟩:=ry;let⟨j,h1,h2,h3,h4,h5⟩:=qz he;have hl:z.cps.toList.length=z.length:=by simp[Str.length]
 rw[hl]at h1 h4 h5;have hn:=iY;exact tail_any (typeIs_str s z t) slot_str_getitem.lookup (getItem_str (by
  have e1:decide (i< -(2^63:Int))=false:=decide_eq_false (!1);have e2:decide (i≥2^63)=false:=decide_eq_false (!1);rw[e1,e2,Bool.or_false]) (by rw[h1];simpa using h2) ⟨.str ⟨#[c]⟩,H,I.tok _,⟨_,rfl⟩,q⟩) hs
def  rIx (K:Frag):R2:=λx y H Q=>Jz K x y H Q\/JA K x y H Q\/JB x y H Q
def ix_seq:IxR X (rIx X.K):=ix_list.or (ix_tup.or Ge)
def uG (its:N5) (n j:Nat) (u:Value):Obj.mapSeq (·.setIfInBounds j u) {cls:=.type "list",data:=.seq its.toArray n}={cls:=.type "list",data:=.seq (its.set j u).toArray n}:=by
 simp[Obj.mapSeq]
def Inv.lst {σ:St} (I:Inv X pins σ H s) (h:H p=!(.lst xs)):
  ∃ (its:N5) (n:Nat),Vals xs its/\s.heap.get? p=some {cls:=.type "list",data:=.seq its.toArray n}/\xs.length<=sizeLine:=by
 let⟨z,its,n,r,e⟩:=I.hok p _ h
 grind
def Inv.lstUpd {σ:St} {its its':N5} (I:Inv X pins σ H s) (h:H p=!(.lst xs)) (ho:s.heap.get? p=some {cls:=.type "list",data:=.seq its.toArray n}) (hf:f {cls:=.type "list",data:=.seq its.toArray n}={cls:=.type "list",data:=.seq its'.toArray n'}) (r:Vals ys its') (hz:ys.length<=sizeLine) (t:Nat):
  Inv X pins σ (upd H p (.lst ys)) {s with heap:=s.heap.update p f,toks:=t}:=by
 have e:(s.heap.update p f).get? p=some {cls:=.type "list",data:=.seq its'.toArray n'}:=by
  rw[Heap.get?_update_self f ho (by rw[hf]<;>rfl),hf]
 refine I.write (by rw[h];trivial) (.inl rfl) (λb u hb q=>(Heap.get?_update_other _ _ (Ne.symm hb)).trans q) ⟨_,e⟩ ?_
 exact⟨hz,its',n',r,e⟩
def  JC:V->V->V->Hp->(Hp->Prop)->Prop:=λo i v H Q=>∃p xs k j,o=.ref p/\i=.int k/\H p=!(.lst xs)/\ixN xs.length k=!j/\Q (upd H p (.lst (xs.set j v)))
def zv:F3 X JC:=by
 intro pins s σ H o i v ov iv u Q I ro ri rv h;let⟨p,xs,k,j,rfl,rfl,hp,hj,q⟩:=h;cases ro;let⟨t,rfl⟩:=ri;let⟨its,n,r,ho,hz⟩:=I.lst hp;let⟨h1,h2,h3,h4⟩:=wc hj;have hl:=r.length;have hn:=iY;have I':Inv X pins σ (upd H p (.lst (xs.set j v))) {s with heap:=s.heap.update p (Obj.mapSeq (·.setIfInBounds j u))}:=
  I.lstUpd hp ho (uG its n j u) (r.set rv j) (by rw[List.length_set];exact hz) s.toks
 by_cases h0:0<=k
 .have hk:k.toNat=j:=by
   rw[seqIndex_of h0 h4]at h1;exact Option.some.inj h1
  exact PySem.W.ki_setAt ho h0 (!1) (by rw[size_toArray,<-hl];exact h4) (by rw[hk];exact⟨_,I',q⟩)
 .have hk:(k+(its.toArray.size:Int)).toNat=j:=by
   rw[seqIndex_neg (!1) h3]at h1;rw[size_toArray,<-hl];exact Option.some.inj h1
  exact PySem.W.ki_setBack ho (!1) (by rw[size_toArray,<-hl];exact h3) (!1) (by rw[hk];exact⟨_,I',q⟩)
def qA (lo hi:Of) (n:Nat):(sliceBounds lo hi none n).1=((HT.sIx n 0 lo:Nat):Int)/\(sliceBounds lo hi none n).2.1=((HT.sIx n n hi:Nat):Int)/\(sliceBounds lo hi none n).2.2=1:=by
 refine⟨?_,?_,rfl⟩
 .cases lo with
  |none=>simp[sliceBounds,HT.sIx]
  |some i=>
   simp only[sliceBounds,HT.sIx,Option.getD_none,show(1:Int)>0 by decide,if_true];by_cases h:i<0
   .simp only[h,if_true]<;>omega
   .simp only[h,if_false]<;>omega
 .cases hi with
  |none=>simp[sliceBounds,HT.sIx]
  |some i=>
   simp only[sliceBounds,HT.sIx,Option.getD_none,show(1:Int)>0 by decide,if_true];by_cases h:i<0
   .simp only[h,if_true]<;>omega
   .simp only[h,if_false]<;>omega
def oB (its:N5) (lo hi:Of):slicePick its.toArray lo hi none=((its.drop (HT.sIx its.length 0 lo)).take (HT.sIx its.length its.length hi-HT.sIx its.length 0 lo)).toArray:=by
 let⟨h1,h2,h3⟩:=qA lo hi its.toArray.size;unfold slicePick;rw[h1,h2,h3];simp only[sliceRange_one,pick_run,size_toArray]<;>rfl
def  Mr (K:Frag):V->Of->Of->Hp->VK->Prop:=λx lo hi H Q=>∃a xs,x=.ref a/\SqL K H a xs/\∀p,H p=none->Q (.ref p) (upd H p (.lst (xL xs lo hi)))
def CV:SlR X (Mr X.K):=by
 intro pins s σ H x v vl vu lo hi sl Q I rx hs pl pu h;let⟨a,xs,rfl,hx,q⟩:=h;cases rx;let⟨its,r,ht,hz⟩:=I.list hx;have hlen:=r.length;refine⟨"list",_,slot_list_getitem.lookup,ht.isList.typeIs,?_⟩;refine wpAny_getItem_list_slice ht.isList hs pl pu .none (by simp) ?_ (by rw[size_toArray]<;>omega);rw[oB,<-hlen];refine⟨.ref s.heap.objs.size,_,I.laid (λb ob q=>Oh _ q) (OF _) ?_,rfl,q _ (I.hok.fresh (OF _))⟩;exact⟨Ov (kU xs lo hi) hz,_,0,(r.drop _).take _,Ol _ rfl⟩
noncomputable def  gA:V->Bool
 |.non=>true
 |.bl _=>true
 |.int _=>true
 |.str _=>true
 |_=>false
noncomputable def  eqV:V->V->Bool
 |.non,.non=>true
 |.bl a,.bl b=>a==b
 |.bl a,.int b=>(if a then 1 else 0)==b
 |.int a,.bl b=>a==(if b then 1 else 0)
 |.int a,.int b=>a==b
 |.str a,.str b=>a==b
 |_,_=>false
def zw (ry:RelV y u) (rx:RelV x v) (fy:gA y=true) (fx:gA x=true):SeqAt.EqAt A s u v (eqV y x):=by
 cases y with
 |non=>
  cases ry;cases x with
  |non=>cases rx;exact SeqAt.EqAt.same _
  |bl b=>cases rx;exact SeqAt.EqAt.none_bool b
  |int b=>let⟨t,rfl⟩:=rx;exact SeqAt.EqAt.none_int b t
  |str b=>let⟨t,rfl⟩:=rx;exact SeqAt.EqAt.none_str b t
  |_=>exact absurd (fx) Om
 |bl a=>
  cases ry;cases x with
  |non=>cases rx;exact SeqAt.EqAt.bool_none a
  |bl b=>cases rx;exact SeqAt.EqAt.bool_bool a b
  |int b=>let⟨t,rfl⟩:=rx;exact SeqAt.EqAt.bool_int a b t
  |str b=>let⟨t,rfl⟩:=rx;exact SeqAt.EqAt.bool_str a b t
  |_=>exact absurd (fx) Om
 |int a=>
  let⟨t',rfl⟩:=ry;cases x with
  |non=>cases rx;exact SeqAt.EqAt.int_none a t'
  |bl b=>cases rx;exact SeqAt.EqAt.int_bool a t' b
  |int b=>let⟨t,rfl⟩:=rx;exact SeqAt.EqAt.int_int a t' b t
  |str b=>let⟨t,rfl⟩:=rx;exact SeqAt.EqAt.int_str a t' b t
  |_=>exact absurd (fx) Om
 |str a=>
  let⟨t',rfl⟩:=ry;cases x with
  |non=>cases rx;exact SeqAt.EqAt.str_none a t'
  |bl b=>cases rx;exact SeqAt.EqAt.str_bool a t' b
  |int b=>let⟨t,rfl⟩:=rx;exact SeqAt.EqAt.str_int a t' b t
  |str b=>let⟨t,rfl⟩:=rx;exact SeqAt.EqAt.str_str a t' b t
  |_=>exact absurd (fx) Om
 |_=>exact absurd (fy) Om
def  eqU (x:V) (u:Value):Bool:=match u with
 |.none=>eqV .non x
 |.bool b=>eqV (.bl b) x
 |.int i _=>eqV (.int i) x
 |.str z _=>eqV (.str z) x
 |_=>false
def zx (r:RelV y u) (f:gA y=true):eqU x u=eqV y x:=by
 cases y with
 |non=>cases r;rfl
 |bl b=>cases r;rfl
 |int i=>let⟨t,rfl⟩:=r;rfl
 |str z=>let⟨t,rfl⟩:=r;rfl
 |_=>exact absurd (f) Om
def ji:∀ {xs:List V} {us:N5},Vals xs us->xs.all gA=true->us.any (eqU x)=xs.any λy=>eqV y x
 |_,_,.nil,_=>rfl
 |y::xs,u::us,.cons r t,f=>by
  rw[List.all_cons,and_eq_true]at f;rw[List.any_cons,List.any_cons,zx r f.1,ji t f.2]
def gB (rx:RelV x v) (fx:gA x=true):∀ {xs:List V} {us:N5},Vals xs us->xs.all gA=true->∀u∈us,SeqAt.EqAt A s u v (eqU x u)
 |_,_,.nil,_=>λu hu=>by cases hu
 |y::xs,u::us,.cons r t,f=>λu' hu=>by
  rw[List.all_cons,and_eq_true]at f;rcases mem_cons.mp hu with rfl|hu
  .rw[zx r f.1];exact zw r rx f.1 fx
  .exact gB rx fx t f.2 u' hu
def  inV (x:V) (xs:List V):Bool:=xs.any λy=>eqV y x
def  rIn (K:Frag) (neg:Bool):R2:=λx y H Q=>∃p xs,y=.ref p/\(SqL K H p xs\/SqT K H p xs)/\gA x=true/\xs.all gA=true/\Q (.bl (if neg then not (inV x xs) else inV x xs)) H
def op_in_seq:OpR X (compareOp .In) (rIn X.K false):=by
 intro pins s σ H x y v u Q I rx ry h;let⟨p,xs,rfl,hq,fx,fs,q⟩:=h;cases ry;rcases hq with hq|hq
 .let⟨its,r,pl,hz⟩:=I.list hq;refine SeqAt.in_listAt (eqU x) pl.isList (λw hw=>gB rx fx r fs w (by simpa using hw)) ⟨.bl _,H,I,rfl,?_⟩;rw[show its.toArray.any (eqU x)=its.any (eqU x)by simp,ji r fs];exact q
 .let⟨its,r,pl,hz⟩:=I.tuple hq;refine SeqAt.in_tupleAt (eqU x) pl (λw hw=>gB rx fx r fs w (by simpa using hw)) ⟨.bl _,H,I,rfl,?_⟩;rw[show its.toArray.any (eqU x)=its.any (eqU x)by simp,ji r fs];exact q
def op_notIn_seq:OpR X (compareOp .NotIn) (rIn X.K true):=by
 intro pins s σ H x y v u Q I rx ry h;let⟨p,xs,rfl,hq,fx,fs,q⟩:=h;cases ry;rcases hq with hq|hq
 .let⟨its,r,pl,hz⟩:=I.list hq;refine SeqAt.notIn_listAt (eqU x) pl.isList (λw hw=>gB rx fx r fs w (by simpa using hw)) ⟨.bl _,H,I,rfl,?_⟩;rw[show its.toArray.any (eqU x)=its.any (eqU x)by simp,ji r fs];exact q
 .let⟨its,r,pl,hz⟩:=I.tuple hq;refine SeqAt.notIn_tupleAt (eqU x) pl (λw hw=>gB rx fx r fs w (by simpa using hw)) ⟨.bl _,H,I,rfl,?_⟩;rw[show its.toArray.any (eqU x)=its.any (eqU x)by simp,ji r fs];exact q
def call_len_seq:fG X (.builtin "len") (λxs H Q=>∃p ys,xs=[.ref p]/\(SqL X.K H p ys\/SqT X.K H p ys)/\Q (.int ys.length) H):=by
 intro pins s σ H xs us Q I r h;let⟨p,ys,rfl,hq,q⟩:=h;let⟨u,rfl,rx⟩:=gq r;cases rx;have hn:=iY;rcases hq with hq|hq
 .let⟨its,r',pl,hz⟩:=I.list hq;have hlen:=r'.length;exact Calls.call_len_list pl.isList (by simp only[size_toArray]<;>omega) ⟨.int ys.length,H,I.tok _,⟨s.toks+1,by rw[size_toArray,hlen]⟩,q⟩
 .let⟨its,r',pl,hz⟩:=I.tuple hq;have hlen:=r'.length;exact len_tuple pl (by simp only[size_toArray]<;>omega) ⟨.int ys.length,H,I.tok _,⟨s.toks+1,by rw[size_toArray,hlen]⟩,q⟩
def qB:fG X (.type "list") (λxs H Q=>∃p ys,xs=[.ref p]/\(SqL X.K H p ys\/SqT X.K H p ys)/\∀l,H l=none->Q (.ref l) (upd H l (.lst ys))):=by
 intro pins s σ H xs us Q I r h;let⟨p,ys,rfl,hq,q⟩:=h;let⟨u,rfl,rx⟩:=gq r;cases rx;have fin:∀ (its:N5),Vals ys its->ys.length<=sizeLine->∀ (h':Heap) (c':Nat),(∀b o',s.heap.get? b=!o'->h'.get? b=!o')->
   h'.get? s.heap.objs.size=some {cls:=.type "list",dict:=none,data:=.seq its.toArray c',slots:=#[]}->EP X pins σ Q _ {s with heap:=h'}:=λits r' hz h' c' kp e=>
  ⟨.ref s.heap.objs.size,_,I.laid kp (OF _) (show ObjOk X.prog X.w _ h' _ (.lst ys)from⟨hz,its,c',r',e⟩),rfl,q _ (I.hok.fresh (OF _))⟩
 rcases hq with hq|hq
 .let⟨its,r',pl,hz⟩:=I.list hq;have hlen:=r'.length;let⟨o,ho,hc,n,hd⟩:=pl.isList;exact call_list_seq p (.inl rfl) ho hc hd (λh' c' kp e=>fin its r' hz h' c' kp e) (by simp only[size_toArray]<;>omega)
 .let⟨its,r',pl,hz⟩:=I.tuple hq;have hlen:=r'.length;let⟨o,ho,hc,n,hd⟩:=pl;exact call_list_seq p (.inr rfl) ho hc hd (λh' c' kp e=>fin its r' hz h' c' kp e) (by simp only[size_toArray]<;>omega)
def call_tuple_of:fG X (.type "tuple") (λxs H Q=>∃p ys,xs=[.ref p]/\((SqL X.K H p ys/\∀l,H l=none->Q (.ref l) (upd H l (.tup ys)))\/(SqT X.K H p ys/\Q (.ref p) H))):=by
 intro pins s σ H xs us Q I r h;let⟨p,ys,rfl,h⟩:=h;let⟨u,rfl,rx⟩:=gq r;cases rx;rcases h with⟨hq,q⟩|⟨hq,q⟩
 .let⟨its,r',pl,hz⟩:=I.list hq;have hlen:=r'.length;refine call_tuple_list pl.isList (λh' kp=>?_) (by simp only[size_toArray]<;>omega);have I1:Inv X pins σ H {s with heap:=h'}:=I.kept kp;have I2:Inv X pins σ (upd H h'.objs.size (.tup ys)) {s with heap:=h'.push {cls:=.type "tuple",data:=.seq its.toArray}}:=
   I1.laid (λb o e=>Oh _ e) (OF _) (⟨hz,its,r',IsTup.new _ _⟩)
  exact⟨.ref h'.objs.size,_,I2,rfl,q _ (I1.hok.fresh (OF _))⟩
 .let⟨its,r',pl,hz⟩:=I.tuple hq;exact call_tuple_same pl ⟨.ref p,H,I,rfl,q⟩
def  tyV (K:Frag) (T:String) (x:V) (H:Hp):Prop:=match x with
 |.str _=>T="str"
 |.int _=>T="int"
 |.ref p=>(T="list"/\∃xs,SqL K H p xs)\/(T="tuple"/\∃o,K.lookup p=!o/\o.cls=.type "tuple"/\o.dict=none)\/
  (T="dict"/\((∃kvs,H p=!(.dK kvs))\/∃kvs,H p=!(.dT kvs)))\/(T="set"/\∃S n,H p=!(.set S n))
 |_=>False
def Gg {σ:St} (I:Inv X pins σ H s) (r:RelV x v) (ty:tyV X.K T x H):
  s.TypeIs v T/\∀a,v=.ref a->∃ob,s.heap.get? a=!ob/\ob.dict=none:=by
 cases x with
 |str z=>
  let⟨t,rfl⟩:=r;cases(ty);exact⟨typeIs_str s z t,λ_ e=>nomatch e⟩
 |int i=>
  let⟨t,rfl⟩:=r;cases(ty);exact⟨typeIs_int s i t,λ_ e=>nomatch e⟩
 |ref p=>
  cases r;rcases ty with⟨rfl,xs,hq⟩|⟨rfl,o,hk,hc,hd⟩|⟨rfl,hk⟩|⟨rfl,S,n,hk⟩
  .let⟨its,_,pl,_⟩:=I.list hq;refine⟨pl.isList.typeIs,λa e=>?_⟩;cases e;let⟨o,n,e,c,hd,_⟩:=pl;exact⟨o,e,hd⟩
  .refine⟨⟨o,I.kIn p o hk,hc⟩,λa e=>?_⟩;cases e;exact⟨o,I.kIn _ o hk,hd⟩
  .have z:∃o,s.heap.get? p=!o/\o.ExactDict:=by
    rcases hk with⟨kvs,hk⟩|⟨kvs,hk⟩
    .let⟨_,_,_,_,o,_,_,e,ex,_⟩:=I.hok p _ hk;exact⟨o,e,ex⟩
    .let⟨_,_,_,_,o,_,_,e,ex,_⟩:=I.hok p _ hk;exact⟨o,e,ex⟩
   let⟨o,e,ex⟩:=z;refine⟨⟨o,e,ex.1⟩,λa e2=>?_⟩;cases e2;exact⟨o,e,ex.2.1⟩
  .let⟨o,_,_,_,e,ex,_⟩:=I.hok p _ hk;refine⟨⟨o,e,ex.1⟩,λa e2=>?_⟩;cases e2;exact⟨o,e,ex.2.1⟩
 |_=>exact False.elim ty
def  tBM (K:Frag) (T:String) (r:V->List V->Hp->VK->Prop) (to:TE) (t:TA):TE:=λσ H Q=>to σ H λx H1=>tyV K T x H1/\t σ H1 λxs H2=>r x xs H2 Q
variable {o e:Expr} {es:Od} {to:TE} {t:TA} {name:Str} {apos cpos:Pos} {T id:String} {r:V->List V->Hp->VK->Prop}
def kW (pa:PlainAttrs T) (slot:Slot T name id) (hty:typeOf (.builtin id)=pure (.type "method_descriptor")) (hm:MtR X id r) (ho:PE X o to) (ha:PA X (e::es) t)
  (hbase:attributeBase o name X.env (eval o X.env)=eval o X.env:=by rfl)
  (hfew:((backTo cpos (starEach (e::es) X.env)).all (λx=>not x.1)&&(backToKw cpos (keywordEach [] X.env)).all (λx=>x.1.isSome)
   &&decide ((e::es).length+([]:List Keyword).length+(if([]:List Keyword).isEmpty then 0 else 1)<30))=true:=by rfl)
  (hline:(apos.endLine==cpos.line)=true:=by rfl) (hs:starEach (e::es) X.env=(false,eval e X.env)::starEach es X.env:=by rfl) (hplain:(backTo cpos (starEach es X.env)).any (·.1)=false:=by rfl):
  PE X (.Call (.Attribute o name apos) (e::es) [] cpos) (tBM X.K T r to t):=by
 intro pins s σ H Q I h
 refine wpAny_Call_method_late hbase hfew hline rfl (thn (ho pins s σ H _ I h) λv s1 ⟨x,H1,I1,r1,ty,q1⟩=>?_)
 let⟨h1,h2⟩:=Gg I1 r1 ty
 refine⟨T,id,pa,slot,hty,h1,h2,?_⟩
 have hA:=ha cpos pins s1 σ H1 _ I1 q1
 rw[hs]at hA⊢
 refine Calls.callWith_builtin (by show(false||(backTo cpos (starEach es X.env)).any (·.1))=false;rw[hplain]<;>rfl) (Calls.evalArgs_plain ?_)
 exact thn hA λus s2 ⟨vs,H2,I2,r2,q2⟩=>hm pins s2 σ H2 x vs v us Q I2 r1 r2 q2
end
def  MtM (X:Cx) (id:String) (r:V->List V->Hp->VK->Prop):Prop:=
 ∀ (pins:N1) (s:Shared) (σ:St) (H:Hp) (x:V) (xs:List V) (v:Value) (us:N5) (Q:VK),Inv X pins σ H s->RelV x v->Vals xs us->r x xs H Q->
  wpAny (!4) X.A (call (.builtin id) (v::us)) (EP X pins σ Q) X.xe s
def Vals.one:∀ {x:V} {us:N5},Vals [x] us->∃u,us=[u]/\RelV x u
 |_,_,.cons r .nil=>⟨_,rfl,r⟩
def Vals.reverse (h:Vals xs us):Vals xs.reverse us.reverse:=by
 induction h with
 |nil=>exact .nil
 |cons r t ih=>rw[List.reverse_cons,List.reverse_cons];exact Vals.append ih (.cons r .nil)
section
variable {X:Cx} {pins:N1} {σ:St} {H:Hp} {s:Shared} {l b:Addr} {xs ys zs:List V}
def Inv.lset {its its':N5} (I:Inv X pins σ H s) (hH:H l=!(.lst xs)) (e:s.heap.get? l=some {cls:=.type "list",data:=.seq its.toArray n}) (hf:f its.toArray=its'.toArray) (hv:Vals ys its') (hz:ys.length<=sizeLine):
  Inv X pins σ (upd H l (.lst ys)) {s with heap:=s.heap.update l (Obj.mapSeq f),toks:=t'}:=by
 have q:=PySem.IsL.update e f
 rw[hf]at q
 refine I.write (by rw[hH];exact trivial) (.inl rfl) (λb' u hb hu=>(Heap.get?_update_other s.heap _ (Ne.symm hb)).trans hu) ⟨_,q⟩ ?_
 exact⟨hz,its',_,hv,q⟩
def Inv.lnew (I:Inv X pins σ H s) (hv:Vals ys its) (hz:ys.length<=sizeLine):
  Inv X pins σ (upd H s.heap.objs.size (.lst ys)) {s with heap:=s.heap.push {cls:=.type "list",data:=.seq its.toArray},toks:=t'}:=
 I.laid (λ_ _ q=>Oh _ q) (OF _) ⟨hz,its,0,hv,Ol _ rfl⟩
def Inv.fresh (I:Inv X pins σ H s):H s.heap.objs.size=none:=I.hok.fresh (OF _)
def Inv.lstM (I:Inv X pins σ H s) (hH:H l=!(.lst xs)):xs.length<=sizeLine/\∃ (its:N5) (n:Nat),Vals xs its/\xs.length=its.length/\s.heap.get? l=some {cls:=.type "list",data:=.seq its.toArray n}:=by
 let⟨z,its,n,r,e⟩:=I.hok l _ hH;exact⟨z,its,n,r,r.length,e⟩
def zy (h:n<=sizeLine):Builtin.List.listTooLong n=false:=by
 exact decide_eq_false (!1)
end
section
variable {X:Cx}
def  CW:V->List V->Hp->VK->Prop:=λx vs H Q=>∃l xs y,x=.ref l/\vs=[y]/\H l=!(.lst xs)/\xs.length<sizeLine/\Q .non (upd H l (.lst (xs++[y])))
def j3:MtM X "list.append" CW:=by
 intro pins s σ H x vs v us Q I rx rv h;let⟨l,xs,y,rfl,rfl,hH,hz,q⟩:=h;cases rx;let⟨u,rfl,ru⟩:=rv.one;let⟨z,its,n,r,hl,e⟩:=I.lstM hH;refine call_meets F.slot_list_append ⟨_,e,rfl⟩ F.entry_list_append (F.args_list_append_2 _ _) (PySem.list_append l its.toArray n u (by rw[size_toArray];omega)) ⟨e,?_⟩;refine⟨.non,_,I.lset hH e (by simp) (r.append (.cons ru .nil)) ?_,rfl,q⟩;grind
end
section
variable {prog:Program} {w:World} {A:Around} {E:N4} {s:Shared}
set_option maxRecDepth 100000 in
end
section
variable {X:Cx}
end
end L2
namespace Att
open PySem PySem.W PySem.Calls PyProof.Rows
def lG:∀ (ns:N9) (vs:N5),WellAll P h vs (ns.map WData.int)->IntsAre vs ns:=by
 intro ns;induction ns with
 |nil=>
  intro vs w;cases w;exact .nil
 |cons n ns ih=>
  intro vs w;cases w with
  |cons a b=>
   cases a;exact .cons _ _ (ih _ b)
def xM {l:OpenLaw} (hn:l.most=!n) (hpre:l.row.toRowW.claim.pre args=true) (hwl:WellAll P h vals args):
  ∃a vs ns,vals=[Value.ref a]/\args=[WData.list (ns.map WData.int)]/\h.get? a=some {cls:=.type "list",data:=.seq vs.toArray}/\IntsAre vs ns/\ns.length<=n:=by
 have hsh:WShape.hasAll [] args [.list .int]=true:=(pre_splitW hpre).1
 have hc:l.pre.holds [] {args:=args}=true:=(pre_splitW hpre).2
 let⟨d,r,rfl,h1,h2⟩:=hasAllW_cons hsh
 obtain rfl:=hasAllW_nil h2
 let⟨xs,rfl,h3⟩:=hasW_list h1
 let⟨ns,rfl⟩:=items_int h3
 have hlen:ns.length<=n:=by
  have h4:(WTm.not (.lt (.lit (.int (n:Int))) (.len (.arg 0)))).holds [] {args:=[.list (ns.map .int)]}=true:=by
   have h4:=(holds_andW hc).1;rw[hn]at h4;exact h4
  have h5:=condW_of h4 (w_not (w_lt w_lit (w_len_list (w_arg rfl))));refine Nat.le_of_not_lt λq=>?_;first
   |(rw[decide_eq_true q']at h5;exact absurd h5 (!5))
   |(simp at h5;omega)
 cases hwl with
 |cons w1 w2=>
  cases w2;cases w1 with
  |list ho hall=>exact⟨_,_,ns,rfl,rfl,ho,lG ns _ hall,hlen⟩
def xN (l:OpenLaw) (args:List WData):l.row.toRowW.claim.post args (.bool true) args=true:=
 postW_of
  (by first|rfl|decide|simp[WShape.has,WShape.arms,WShape.armsAll])
  (w_eq_bool (w_res rfl) w_lit) rfl
def attach_call {l:OpenLaw} (hn:l.most=!n) (hdf:d.params.defaults=[]) (call:∀ (w:World) (s₀ s₁:Shared) (mg mb:Str->N6) (fa:Addr) (o:Obj) (pm cd doc:Value) (a:Addr) (vs:N5) (ns:N9),
   Ground q loose [] XP w s₀ mg mb s₁.heap->YP w s₁.heap->
   s₁.heap.get? fa=!o->o.data=.func (docDef d.name d.params d.body d.scope pm cd doc)->s₁.heap.CodeRec cd d.name->mg d.name=!(.ref fa)->
   s₁.heap.get? a=some {cls:=.type "list",data:=.seq vs.toArray}->IntsAre vs ns->ns.length<=n->s₁.gens=#[]->
   codeAny (model l.prog w) callerA (.call (.ref fa) ⟨[.ref a],[]⟩) (λr s'=>r=.ok (.ret (.bool true))/\OldK s₁.heap s'.heap/\s'.os=s₁.os/\AllBare s'.gens) s₁):
  WalkO q loose XP YP l.row.toRowW d [] (λf vs=>PySem.call f vs):=by
 intro w s₀ s₁ mg mb G ρ fa o pm cd doc dV kV ho hd hcd hD hmg hg args vals as hpre hlay hrd hwl hlo
 obtain rfl:dV=.none:=Dflts.none hD hdf
 obtain rfl:kV=.none:=Dflts.noKw hD
 let⟨a,vs,ns,rfl,rfl,hobj,hints,hlen⟩:=xM hn hpre hwl
 refine enter_call (codeAny_mono (call w s₀ s₁ mg mb fa o pm cd doc a vs ns G ρ ho (fd_plain hd) hcd hmg hobj hints hlen hg) λr s' hq=>?_)
 let⟨rfl,h2,h3,h4⟩:=hq
 exact⟨.inl ⟨.bool true,.bool true,[],rfl,λ_=>rfl,.bool true,xN l _,λ_=>⟨List.Pairwise.nil,λ_ hm=>(nomatch hm)⟩⟩,h2,h3,h4⟩
section
variable {prog:Program} {w:World} {A:Around} {E:N4} {s:Shared} {K:Frag}
end
end Att
namespace L2
open PySem PySem.Spec PyProof.Rows
def pK:∀ {vs:N5} {ns:N9},IntsAre vs ns->Vals (ns.map V.int) vs
 |_,_,.nil=>.nil
 |_,_,.cons n t h=>.cons ⟨t,rfl⟩ (pK h)
def  Ms (H:Hp):Prop:=∀b,H b=none\/∃o xs,H b=!(.frz o (.lst xs))
noncomputable def  cZ (H:Hp):Hp:=λb=>match lamTabs.lookup b with
 |some z=>!(.cod #[] z.1 z.2)
 |none=>H b
def gC (h:lamTabs.lookup b=none):cZ H b=H b:=by unfold cZ;rw[h]
def withT_yes (h:lamTabs.lookup b=!z):cZ H b=!(.cod #[] z.1 z.2):=by unfold cZ;rw[h]
def  qC (K:Frag) (h:Heap):Prop:=∀b z,lamTabs.lookup b=!z->h.get? b=some {cls:=.none,data:=.fields #[]}/\K.lookup b=none/\isCodeTable h b
def zA {K} (hT:qC K s₁.heap) (KX:K.In s₁.heap) (hns:s₁.heap.Ns mainGlobals mg) (hb:s₁.heap.Ns builtinsNs mb) (hbb:∀x:Str,x≠"__name__" ->mb x=bootBuiltins x) (hlim:s₁.heap.NoLimit) (hg:s₁.gens=#[]) (ha:s₁.heap.get? a=some {cls:=.type "list",data:=.seq vs.toArray}) (hi:IntsAre vs ns) (hl:ns.length<=sizeLine) (hr:Room k callerA) (F:∀base:Heap,K.In base->base.Ns mainGlobals mg->FnOk P w K mg base CX k fa fd [x] sp) (hbind:∀ (s:Shared) (u:Value),BindsTo s fd ⟨[u],[]⟩ [(x,u)]) (hsp:∀H:Hp,SqL K H a (ns.map V.int)->sp [.ref a] H (λv _=>v=.bl true) λ_ _ _=>False) (hCX:∀H e s',CX [] H s₁ (λ_ _ _=>False) e s'->False):
  codeAny (model P w) callerA (.call (.ref fa) ⟨[.ref a],[]⟩) (λr s'=>r=.ok (.ret (.bool true))/\OldK s₁.heap s'.heap/\s'.os=s₁.os/\AllBare s'.gens) s₁:=by
 have rv:=pK hi
 have lenV:=hi.length
 -- from an abstract heap in which nothing but the script may be tracked
 have core:∀H:Hp,Ms H->SqL K H a (ns.map V.int)->HOk P w H s₁.heap->(∀b,H b≠none->b=a)->(H a≠none->K.lookup a=none)->
   codeAny (model P w) callerA (.call (.ref fa) ⟨[.ref a],[]⟩) (λr s'=>r=.ok (.ret (.bool true))/\OldK s₁.heap s'.heap/\s'.os=s₁.os/\AllBare s'.gens) s₁:=by
  intro H0 hO hS0 hok0 hA0 hK
  have hTa:lamTabs.lookup a=none:=by
   cases q:lamTabs.lookup a with
   |none=>rfl
   |some z=>
    have e:=(hT a z q).1
    rw[ha]at e
    cases e
  have up:∀b o,H0 b=!o->cZ H0 b=!o:=λb o e=>by
   rw[gC (by rw[hA0 b (by rw[e];simp)];exact hTa)];exact e
  have hA:∀b,cZ H0 b≠none->b=a\/∃z,lamTabs.lookup b=!z:=λb h=>by
   cases q:lamTabs.lookup b with
   |some z=>exact .inr ⟨z,rfl⟩
   |none=>rw[gC q]at h;exact .inl (hA0 b h)
  have hS:=SqL.up up hS0
  have hok:HOk P w (cZ H0) s₁.heap:=λb o e=>by
   cases q:lamTabs.lookup b with
   |some z=>
    rw[withT_yes q]at e
    cases e
    exact .inl (hT b z q).1
   |none=>
    rw[gC q]at e
    exact(hok0 b o e).stay (λ_ _ _ z=>z) (λc z=>up _ _ z) (λc xs z=>up _ _ z) λc o' u' z=>up _ _ z
  have base_of:∀ {b:Addr} {o:Obj},s₁.heap.get? b=!o->cZ H0 b=none->(qu s₁.heap _).get? b=!o:=λe n=>yX e n
  have noA:∀ {b:Addr} {o:Obj} {es:Array DictEntry} {ep:Nat},s₁.heap.get? b=!o->o.data=.dict es ep->cZ H0 b=none:=λ{b o es ep} e d=>by
   cases q:cZ H0 b with
   |none=>rfl
   |some u=>
    rcases hA b (by rw[q];simp)with e'|⟨z,e'⟩
    .subst e'
     rw[ha]at e;cases e
     have d':=d
     cases d'
    .rw[(hT b z e').1]at e;cases e
     have d':=d
     cases d'
  have nsK:∀ {b:Addr} {m:Str->N6},s₁.heap.Ns b m->(qu s₁.heap (cZ H0)).Ns b m:=λ{b m} ⟨o,es,ep,e,d,r⟩=>⟨o,es,ep,base_of e (noA e d),d,r⟩
  have hKb:K.In (qu s₁.heap (cZ H0)):=λb o e=>base_of (KX b o e) (by
   cases q:cZ H0 b with
   |none=>rfl
   |some u=>
    rcases hA b (by rw[q];simp)with e'|⟨z,e'⟩
    .subst e'
     rw[hK (by rw[gC hTa]at q;rw[q];simp)]at e;cases e
    .rw[(hT b z e').2.1]at e;cases e)
  have hM:Mod K mg (qu s₁.heap (cZ H0)):=⟨hKb,nsK hns,⟨mb,nsK hb,hbb⟩,let⟨mc,h1,h2⟩:=hlim;⟨mc,nsK h1,h2⟩⟩
  have e0:Env0 P w K mg (qu s₁.heap (cZ H0)) callerA [] s₁ (cZ H0):=⟨rfl,hM,λb o e=>CH e,Nat.le_of_eq (xB _ _),trivial,⟨λb hb=>absurd (show b∈([]:List Addr)from hb) (by simp),λb z q=>withT_yes q⟩,hok,.of_eq hg⟩
  refine codeAny_mono ((F _ hKb (nsK hns)).run callerA [] s₁ _ ⟨[.ref a],[]⟩ [.ref a] [.ref a] _ _ hr e0 (hbind s₁ _) (.cons rfl .nil) (hsp _ hS)) λr s' h=>?_
  cases r with
  |error e=>exact(hCX _ e s' h).elim
  |ok fl=>
   cases fl with
   |next=>exact False.elim h
   |brk=>exact False.elim h
   |cont=>exact False.elim h
   |ret u=>
    let⟨v,H',os,bare,un,hok',r',q⟩:=h
    have q':=q
    subst q'
    obtain rfl:u=Value.bool true:=r'
    have main:∀b o,s₁.heap.get? b=!o->s'.heap.get? b=!o\/(isCodeTable s₁.heap b/\o.cls=.none/\∃vs more,o.data=.fields vs/\s'.heap.get? b=some {o with data:=.fields (vs++more)}):=λb o e=>by
     cases q:cZ H0 b with
     |none=>exact .inl (un.keep b o e q (by intro z;exact absurd (show b∈([]:List Addr)from z) (by simp)) (by simp))
     |some u=>
      cases qt:lamTabs.lookup b with
      |some z=>
       have z2:=un.frzs b (.cod #[] z.1 z.2) True.intro (withT_yes qt)
       let⟨g1,g2,g3⟩:=hT b z qt
       rw[e]at g1
       cases g1
       rcases hok' b _ z2 with y|⟨_,_,_,_,y,_⟩
       .exact .inl y
       .exact .inr ⟨g3,rfl,_,_,rfl,y⟩
      |none=>
       rw[gC qt]at q
       rcases hO b with z|⟨ob,xs,z⟩
       .rw[q]at z;cases z
       .have z2:=un.frzs b (.frz ob _) True.intro (up _ _ z)
        let⟨e1,_⟩:=hok b _ (up _ _ z)
        let⟨e2,_⟩:=hok' b _ z2
        rw[e]at e1;cases e1
        exact .inl e2
    refine⟨rfl,⟨λb o e=>?_,λb o e=>?_⟩,os,bare⟩
    .rcases main b o e with y|⟨y1,y2,vs',more,y3,y4⟩
     .exact .inl y
     .exact .inr (.inl ⟨y1,y2,vs',more,y3,y4⟩)
    .rcases main b o e with y|⟨_,_,_,_,_,y4⟩
     .exact⟨_,y⟩
     .exact⟨_,y4⟩
 cases hk:K.lookup a with
 |some o=>
  -- the script is one of the module's own objects
  have e:=KX a o hk
  rw[ha]at e
  cases e
  refine core (λ_=>none) (λ_=>.inl rfl) (.inr ⟨_,vs.toArray,_,hk,rfl,rfl,rfl,by rw[size_toArray,lenV];exact hl,by simpa using rv⟩) (λb u z=>by have z':(none:Option HO)=!u:=z;cases z') (λb z=>absurd rfl z) λz=>absurd rfl z
 |none=>
  refine core (λb=>if b=a then !(.frz {cls:=.type "list",data:=.seq vs.toArray} (.lst _))else none) (λb=>?_) (.inl (.inr ⟨{cls:=.type "list",data:=.seq vs.toArray},if_pos rfl⟩)) (λb u z=>?_) (λb z=>?_) λ_=>hk
  .by_cases hb:b=a
   .exact .inr ⟨_,_,if_pos hb⟩
   .exact .inl (if_neg hb)
  .by_cases hb:b=a
   .have z':=(if_pos hb).symm.trans z
    cases z'
    subst hb
    exact⟨ha,by rw[length_map];exact hl,vs,_,rv,ha⟩
   .have z':=(if_neg hb).symm.trans z
    cases z'
  .by_cases hb:b=a
   .exact hb
   .exact absurd (if_neg hb) z
def walk_of {l:PySem.W.OpenLaw} {K:Params->Frag} {CX:World->CXT} {sp:World->Sp} (hn:l.most=!n) (hn2:n<=sizeLine) (hdf:d.params.defaults=[]) (hr:Room k callerA) (hY:∀ (w:World) (h:Heap),YP w h->(K w.params).In h) (hT:∀ (w:World) (h:Heap),YP w h->qC (K w.params) h) (F:∀ (w:World) (mg:Str->N6) (fa:Addr) (h:Heap),(K w.params).In h->h.Ns mainGlobals mg->mg d.name=!(.ref fa)->
   ∃fd:FuncData,(∀ (s:Shared) (u:Value),BindsTo s fd ⟨[u],[]⟩ [(x,u)])/\
    ∀base:Heap,(K w.params).In base->base.Ns mainGlobals mg->FnOk l.prog w (K w.params) mg base (CX w) k fa fd [x] (sp w)) (hsp:∀ (w:World) (H:Hp) (a:Addr) (ns:N9),ns.length<=n->SqL (K w.params) H a (ns.map V.int)->sp w [.ref a] H (λv _=>v=.bl true) λ_ _ _=>False) (hCX:∀ (w:World) (H:Hp) (s:Shared) (e:Value) (s':Shared),CX w [] H s (λ_ _ _=>False) e s'->False):
  PySem.W.WalkO q loose XP YP l.row.toRowW d [] (λf vs=>PySem.call f vs):=by
 refine Att.attach_call hn hdf λw s₀ s₁ mg mb fa o pm cd doc a vs ns G ρ ho hd hcd hmg hobj hints hlen hg=>?_
 have KX:=hY w _ ρ
 let⟨fd,hb,hF⟩:=F w mg fa _ KX G.T.g hmg
 exact zA (hT w _ ρ) KX G.T.g G.T.b G.T.builtins G.T.nolimit hg hobj hints (Ov hlen hn2) hr hF hb (λH hS=>hsp w H a ns hlen hS) λH e s'=>hCX w H s₁ e s'
noncomputable def  jk (s:Stmt) (j:Nat):Stmt:=match s with
 |.ClassDef _ _ _ body _ _ _ _ _ _ _=>body.getD j (.Pass ⟨0,0,0,0⟩)
 |_=>.Pass ⟨0,0,0,0⟩
noncomputable def  bH (s:Stmt):Arguments:=match s with
 |.FunctionDef _ a _ _ _ _ _ _ _ _=>a
 |_=>{posonlyargs:=[],args:=[],vararg:=none,kwonlyargs:=[],kw_defaults:=[],kwarg:=none,defaults:=[]}
noncomputable def  aF (s:Stmt):List Stmt:=match s with
 |.FunctionDef _ _ b _ _ _ _ _ _ _=>b
 |_=>[]
noncomputable def  aj (s:Stmt):Scope:=match s with
 |.FunctionDef _ _ _ _ _ _ sc _ _ _=>sc
 |_=>{kind:=.function,names:=[],isGenerator:=false,isCoroutine:=false}
noncomputable abbrev CX0:CXT:=λ_ _ _ _ _ _=>False
noncomputable abbrev E0:XK:=λ_ _ _=>False
def sx:j2 CX0 X E0:=λ_ _ _ _ _ _ _ h=>h.elim
structure Fun (K:Frag) (x qual:Str) (st:Stmt) (f:Addr) (fd:FuncData):Prop where
 ex:∃ (oc:Value) (od:Option Addr) (kV doc pm:Value) (an:Option Addr) (cdv ct:Value) (osl:Array (N6)),
  fd=PySem.W.fnOf x qual (bH st) (aF st) (aj st) .none kV doc pm an cdv ct/\K.lookup f=!⟨oc,od,.func fd,osl⟩/\PySem.W.codeIn K cdv qual=true
 kp:PySem.W.keepIn K (.ref f)=true
section
variable {P:Program} {w:World} {K:Frag} {mg:Str->N6} {base:Heap}
def Fun.ok {st} (F:Fun K x qual st f fd) (S:FnScope N ps (aj st)) (len:∀vs H Q E,sp vs H Q E->vs.length=ps.length) (hbody:∀ (cdv:Value) (A:Around) (outer:List Env) (s:Shared) (H:Hp) (vs:List V) (Q:VK) (E:XK),Room k (A.deeper (envOfC qual (aj st) s.heap.objs.size f cdv))->sp vs H Q E->
  ∃t,PSs (mB CX0 P w K mg base N qual (aj st) f cdv A outer s H E).nox (aF st) t/\t {nx:=λ_ H'=>Q .non H',rt:=Q} (iK N vs) H):FnOk P w K mg base CX0 (k+1) f fd ps sp:=by
 let⟨oc,od,kV,doc,pm,an,cdv,ct,osl,rfl,lk,hcd⟩:=F.ex
 refine Fe lk hcd S len λA outer s H vs Q E hr hsp=>?_
 let⟨t,h,q⟩:=hbody cdv A outer s H vs Q E hr hsp
 exact⟨t,h.nox,q⟩
def Fun.binds {st} (F:Fun K x qual st f fd) (h:∀ (kV doc pm:Value) (an:Option Addr) (cdv ct:Value) (us:N5),us.length=ps.length->bindArgs (PySem.W.fnOf x qual (bH st) (aF st) (aj st) .none kV doc pm an cdv ct) ⟨us,[]⟩=pure (ps.zip us)):Binds K fd ps []:=by
 let⟨oc,od,kV,doc,pm,an,cdv,ct,osl,rfl,lk,hcd⟩:=F.ex;exact .all (h kV doc pm an cdv ct)
def mE {st} {kV doc pm cdv ct} (l:K.lookup f=!⟨oc,od,.func (PySem.W.fnOf x qual (bH st) (aF st) (aj st) .none kV doc pm an cdv ct),osl⟩) (c:PySem.W.codeIn K cdv qual=true) (k:PySem.W.keepIn K (.ref f)=true):Fun K x qual st f (PySem.W.fnOf x qual (bH st) (aF st) (aj st) .none kV doc pm an cdv ct):=⟨⟨oc,od,kV,doc,pm,an,cdv,ct,osl,rfl,l,c⟩,k⟩
end
section
variable {X:Cx}
end
def Gh {A B:Prop} (h:B):if false=true then A else B:=by
 exact h
def Gi {A B:Prop} (h:A):if true=true then A else B:=by
 exact h
def  Same (H H':Hp):Prop:=∀b o,H b=!o->H' b=!o
def Same.refl (H:Hp):Same H H:=λ_ _ h=>h
def Same.trans (a:Same H H1) (b:Same H1 H2):Same H H2:=λc o h=>b c o (a c o h)
def Same.free (e:Same H H') (h:H' l=Option.none):H l=Option.none:=by
 cases q:H l with
 |none=>rfl
 |some o=>
  rw[e l o q]at h;cases h
def Same.seq {K} (e:Same H H') (h:SqL K H a xs):SqL K H' a xs:=by
 rcases h with(h|⟨o,h⟩)|h
 .exact .inl (.inl (e _ _ h))
 .exact .inl (.inr ⟨o,e _ _ h⟩)
 .exact .inr h
def PE.imp (h:PE X e t) (k:∀σ H Q,t' σ H Q->t σ H Q):PE X e t':=λpins s σ H Q I q=>h pins s σ H Q I (k _ _ _ q)
def PT.imp (h:PT X e t) (k:∀σ H Q,t' σ H Q->t σ H Q):PT X e t':=λpins s σ H Q I q=>h pins s σ H Q I (k _ _ _ q)
def PA.imp (h:PA X e t) (k:∀σ H Q,t' σ H Q->t σ H Q):PA X e t':=λpos pins s σ H Q I q=>h pos pins s σ H Q I (k _ _ _ q)
def PS.imp {st} (h:PS X st t) (k:∀D σ H,t' D σ H->t D σ H):PS X st t':=λpins s σ H D I q=>h pins s σ H D I (k _ _ _ q)
def PSs.imp {st} (h:PSs X st t) (k:∀D σ H,t' D σ H->t D σ H):PSs X st t':=λpins s σ H D I q=>h pins s σ H D I (k _ _ _ q)
def PI.imp (h:PI X tg iter t) (k:∀σ H R,t' σ H R->t σ H R):PI X tg iter t':=λpins s σ H R I q=>h pins s σ H R I (k _ _ _ q)
def PG.imp (h:PG X tg t) (k:∀v σ H Q,t' v σ H Q->t v σ H Q):PG X tg t':=λpins s σ H v u Q I r q=>h pins s σ H v u Q I r (k _ _ _ _ q)
def kX {α β:Type} {f:α->β->Sem (ForInStep β)} {g}:∀ (l:List α) (c:β),(∀x∈l,∀c,f x c=pure (.yield (g c x)))->forIn l c f=pure (l.foldl g c)
 |[],_,_=>rfl
 |x::l,c,h=>by
  rw[List.forIn_cons,h x mem_cons_self,pure_bind];exact kX l _ λy hy=>h y (Op _ hy)
noncomputable def  eV (env:Env) (cs:List (Str×Addr)) (x:Str×NameKind):List (Str×Addr):=if x.2==.free then(x.1,(env.cells.lookup x.1).getD 0)::cs else cs
abbrev qD (env:Env) (scope:Scope):List (Str×Addr):=scope.names.foldl (eV env) []
def kY (h:(k==NameKind.free)=true):k=.free:=by grind
def mF (h:∀y∈scope.names,y.2=.free->∃c,env.cells.lookup y.1=!c):closureFor scope env=pure (qD env scope):=by
 simp only[closureFor];rw[kX (g:=eV env) scope.names [] (λx hx c=>by
  let⟨n,k⟩:=x;unfold eV;cases hk:(k==NameKind.free)with
  |false=>simp
  |true=>
   let⟨a,e⟩:=h (n,k) hx (kY hk);have e':=e;simp[cellOf,e'])]
 rfl
def dR:∀ (l:List (Str×NameKind)) (cs:List (Str×Addr)),(∀x c,cs.lookup x=!c->env.cells.lookup x=!c)->(∀y∈l,y.2=.free->∃c,env.cells.lookup y.1=!c)->
  ∀x c,(l.foldl (eV env) cs).lookup x=!c->env.cells.lookup x=!c
 |[],_,h,_,x,c,e=>h x c e
 |(n,k)::l,cs,h,hl,x,c,e=>by
  refine dR l (eV env cs (n,k)) (λy d q=>?_) (λy hy=>hl y (Op _ hy)) x c e;unfold eV at q;cases hk:(k==NameKind.free)with
  |false=>rw[hk]at q;exact h y d (by simpa using q)
  |true=>
   rw[hk]at q;let⟨a,ea⟩:=hl (n,k) Oo (kY hk);have ea':env.cells.lookup n=!a:=ea;simp only[if_true,List.lookup_cons,ea',Option.getD_some]at q;cases hy:(y==n)with
   |true=>
    rw[hy]at q;have hyn:y=n:=by simpa using hy
    rw[hyn,ea'];exact q
   |false=>rw[hy]at q;exact h y d q
def iZ:∀ (l:List (Str×NameKind)) (cs:List (Str×Addr)) (x:Str),((x,NameKind.free)∈l\/(cs.lookup x).isSome=true)->((l.foldl (eV env) cs).lookup x).isSome=true
 |[],_,_,h=>by
  rcases h with h|h
  .cases h
  .exact h
 |(n,k)::l,cs,x,h=>by
  refine iZ l (eV env cs (n,k)) x ?_;rcases h with h|h
  .rcases mem_cons.mp h with e|h
   .cases e;refine .inr ?_;unfold eV;simp
   .exact .inl h
  .refine .inr ?_;unfold eV;split
   .rw[List.lookup_cons];split
    .rfl
    .exact h
   .exact h
def mG (h:(relabel scope env).names.lookup x=!k):∃k0,(x,k0)∈scope.names/\(k0=k\/(k0=.free/\k=.cell)):=by
 have h':(scope.names.map λ(n,k)=>if(k==NameKind.free&&env.scope.kind==.function&&env.kindOf n==some .cell)then(n,NameKind.cell)else(n,k)).lookup x=!k:=h;have hm:=PySem.mem_of_lookup h';grind
def  cxC (X:Cx) (scope:Scope) (C:Addr) (s:Shared) (H:Hp) (fp:List Addr):Cx where
 prog:=X.prog
 w:=X.w
 K:=X.K
 mg:=X.mg
 base:=X.base
 A:=X.A
 N:=X.N
 s₀:=s
 H₀:=H
 env:=compEnvC scope (qD X.env scope) C X.env
 outer:=X.stack
 stack:=X.stack
 ex:=fp
 fn:=λ_=>false
 calm:=X.calm
 pn:=[]
 xe:=λ_ _=>False
structure CSc (X:Cx) (scope:Scope) (ks:N7):Prop where
 kind:scope.kind=.function
 nocell:∀y∈scope.names,y.2≠.cell
 names:∀y∈scope.names,y.2=.local->scope.names.lookup y.1=some .local
 free:∀y∈scope.names,y.2=.free->X.env.scope.names.lookup y.1=some .cell\/X.env.scope.names.lookup y.1=some .free
 own:∀ (i:Nat) (x:Str),X.N[i]?=!x->scope.names.lookup x=some .local->i∈ks
noncomputable def  eW {α:Type} (ks:N7) (σ:List (Option α)):List (Option α):=ks.foldl (λσ k=>σ.set k none) σ
def jm:∀ (ks:N7) (σ:List (Option α)),(eW ks σ).length=σ.length
 |[],_=>rfl
 |k::ks,σ=>by
  show(eW ks (σ.set k none)).length=_;rw[jm ks];simp
def mH:∀ (ks:N7) (σ:List (Option α)) (i:Nat) (v:α),(eW ks σ)[i]?=!(!v)->σ[i]?=!(!v)/\i ∉ ks
 |[],_,_,_,h=>⟨h,by simp⟩
 |k::ks,σ,i,v,h=>by
  let⟨h1,h2⟩:=mH ks (σ.set k none) i v h;by_cases hk:k=i
  .subst hk;rw[List.getElem?_set]at h1;simp only[if_true]at h1;split at h1<;>simp at h1
  .rw[List.getElem?_set_ne hk]at h1;exact⟨h1,by simp[h2,Ne.symm hk]⟩
def sy:∀ (ks:N7) (σ:List (Option α)) (i:Nat) (v:α),σ[i]?=!(!v)->i ∉ ks->(eW ks σ)[i]?=!(!v)
 |[],_,_,_,h,_=>h
 |k::ks,σ,i,v,h,hn=>by
  refine sy ks (σ.set k none) i v ?_ λz=>hn (Op _ z);rw[List.getElem?_set_ne (λz=>hn (by simp[z]))];exact h
section
variable {X:Cx} {pins:N1} {σ:St} {H:Hp} {s:Shared} {fp:List Addr} {scope:Scope} {ks:N7} {C D:Addr}
def Inv.cells_of (I:Inv X pins σ H s) (S:CSc X scope ks):∀y∈scope.names,y.2=.free->∃c,X.env.cells.lookup y.1=!c:=λy hy hf=>I.ok.has y.1 (S.free y hy hf)
def uH (I:Inv X pins σ H s) (S:CSc X scope ks) (hf:∀b∈fp,iX X pins H b) (hlt:∀b∈fp,b<s.heap.objs.size) (hC:s.heap.objs.size<=C):(!11).Ok where
 mod:=I.ok.mod
 kind:=S.kind
 glob:=I.ok.glob
 blt:=I.ok.blt
 above:=hC
 inj:=λx y c h1 h2=>I.ok.inj x y c (dR _ [] (λ_ _ z=>nomatch z) (I.cells_of S) x c h1) (dR _ [] (λ_ _ z=>nomatch z) (I.cells_of S) y c h2)
 has:=λx hx=>by
  have q:∃k,(relabel scope X.env).names.lookup x=!k/\(k=.cell\/k=.free):=by
   rcases hx with h|h
   .exact⟨_,h,.inl rfl⟩
   .exact⟨_,h,.inr rfl⟩
  let⟨k,hk,hc⟩:=q;let⟨k0,hm,h0⟩:=mG hk;have hfree:k0=.free:=by
   rcases h0 with rfl|⟨h,_⟩
   .rcases hc with z|z
    .exact absurd z (S.nocell _ hm)
    .exact z
   .exact h
  subst hfree;exact Option.isSome_iff_exists.mp (iZ scope.names [] x (.inl hm))
 cab:=λ_ _ z=>absurd z Om
 hd:=I.ok.hd
 frames:=I.ok.frames
 stk:=.inl rfl
 exf:=λb hb=>⟨Ow (Ot (hlt b hb) hC),λx c e=>(hf b hb).2.2.2.2.1 x c (dR _ [] (λ_ _ z=>nomatch z) (I.cells_of S) x c e)⟩
 bs:=I.bs
 bsz:=Ov I.ok.bsz I.sz
 noex:=λb o e hb=>by
  rcases(hf b hb).2.2.2.1 with z|z
  .exact I.ok.noex b o e z
  .exact absurd (Ot (Ot (Oj e) I.ok.bsz) z) (OB _)
 exfs:=λb hb hs=>by
  rcases mem_cons.mp (I.stkSub b hs)with z|z
  .exact(hf b hb).2.1 z
  .exact(hf b hb).2.2.1 z
 funs:=I.stack
 frf:=⟨I.stkFree,I.tab⟩
def xO {its:N5} (I:Inv X pins σ H s) (S:CSc X scope ks) (hf:∀b∈fp,iX X pins H b) (hlt:∀b∈fp,b<s.heap.objs.size) (hD:s.heap.objs.size<=D) (hC:s.heap.objs.size<=C) (hDC:D≠C) (old:∀b o,s.heap.get? b=!o->h₁.get? b=!o) (hns:h₁.Ns C m) (hacc:h₁.get? D=some {cls:=.type "list",data:=.seq its.toArray n}):
  Inv (!11) [(D,{cls:=.type "list",data:=.seq its.toArray n})] (eW ks σ) H {s with heap:=h₁,toks:=tk}:=by
 have cs:=dR scope.names [] (λ_ _ z=>nomatch z) (I.cells_of S)
 refine⟨uH I S hf hlt hC,rfl,I.bare,Un.kept old,⟨m,hns,λi x v hN hσ hv=>?_⟩,λx c e=>?_,I.hok.fresh hC,λx c e=>I.freeC x c (cs x c e),λp hp=>?_,I.hok.kept old,?_⟩
 .let⟨h1,h2⟩:=mH ks σ i v hσ;have hv':∃k,(relabel scope X.env).names.lookup x=!k/\(k=.local\/k=.cell\/k=.free):=by
   rcases hv with h|h|h
   .exact⟨_,h,.inl rfl⟩
   .exact⟨_,h,.inr (.inl rfl)⟩
   .exact⟨_,h,.inr (.inr rfl)⟩
  let⟨k,hk,hkk⟩:=hv';let⟨k0,hm,h0⟩:=mG hk;have hfree:k0=.free:=by
   rcases h0 with e|⟨h,_⟩
   .subst e;rcases hkk with z|z|z
    .exact absurd (S.own i x hN (S.names _ hm z)) h2
    .exact absurd z (S.nocell _ hm)
    .exact z
   .exact h
  subst hfree;have hX:=S.free _ hm rfl;let⟨m0,hn0,hl0⟩:=I.loc;let⟨u,r,l⟩:=hl0 i x v hN h1 (by rcases hX with z|z;exact .inr (.inl z);exact .inr (.inr z));refine⟨u,r,.inr ⟨?_,?_⟩⟩
  .have hk2:k=.cell\/k=.free:=by
    rcases h0 with e|⟨_,e⟩
    .exact .inr e.symm
    .exact .inl e
   rcases hk2 with e|e
   .subst e;exact .inl hk
   .subst e;exact .inr hk
  .rcases l with⟨hloc,_⟩|⟨_,c,ec,hcell⟩
   .have hloc':X.env.scope.names.lookup x=some .local:=hloc;rcases hX with z|z
    .rw[hloc']at z;cases z
    .rw[hloc']at z;cases z
   .let⟨c',ec'⟩:=Option.isSome_iff_exists.mp (iZ scope.names [] x (.inl hm));have e2:=cs x c' ec';rw[ec]at e2;cases e2;let⟨o,ho,hd⟩:=hcell;exact⟨c,ec',o,old c o ho,hd⟩
 .let⟨v,o,ho,hd⟩:=I.cell x c (cs x c e);exact⟨v,o,old c o ho,hd⟩
 .have e:p=(D,{cls:=.type "list",data:=.seq its.toArray n}):=by
   have hp':p∈[]++[(D,({cls:=.type "list",data:=.seq its.toArray n}:Obj))]:=hp;simpa using hp'
  subst e;refine⟨hacc,I.hok.fresh hD,hDC,λhb=>?_,λv z=>?_⟩
  .rcases mem_cons.mp (I.stkSub D hb)with z|z
   .exact absurd (Ot I.lt hD) (by rw[z];exact OB _)
   .exact I.nofs hD z
  .have z':Data.seq its.toArray n=Data.cell v:=z;cases z'
 .show(eW ks σ).length=X.N.length;rw[jm];exact I.len
def HOk.adopt (x:HOk P w H h) (hn:H a=none) (new:ObjOk P w (upd H a o) h a o):HOk P w (upd H a o) h:=λb u q=>by
 by_cases hb:b=a
 .subst hb;rw[ai]at q;cases q;exact new
 .rw[ae hb]at q;refine(x b u q).stay (λ_ _ _ z=>z) (λc z=>?_) (λc xs z=>?_) λc o' u' z=>?_
  .rw[ae (ak z hn)];exact z
  .rw[ae (ak z hn)];exact z
  .rw[ae (ak z hn)];exact z
def CY {σ':St} (I:Inv X pins σ H s) (J:Inv (!11) pl σ' H' s') (hf:∀b∈fp,iX X pins H b) (hD:s.heap.objs.size<=D) (hDn:H' D=none) (hacc:s'.heap.get? D=some {cls:=.type "list",data:=.seq its.toArray n}) (r:Vals ys its) (hz:ys.length<=sizeLine):Inv X pins σ (upd H' D (.lst ys)) s':=by
 have B:=J.base;have ne:∀b o,s.heap.get? b=!o->b≠D:=λb o e=>Ow (Ot (Oj e) hD);refine I.call' J.os ⟨B.keep,B.slot,λb o e q hx=>?_,B.there,λb xs q=>?_,λb o u q=>?_,λb ps q=>?_⟩ (J.hok.adopt hDn ⟨hz,its,n,r,hacc⟩) J.bare λb hb=>?_
 .rw[ae (ne b o e)];exact B.free b o e q hx
 .have z:=B.tups b xs q;rw[ae (ak z hDn)];exact z
 .have z:=B.frzs b o u q;rw[ae (ak z hDn)];exact z
 .let⟨more,z⟩:=B.tbls b ps q;exact⟨more,by rw[ae (ak z hDn)];exact z⟩
 .let⟨_,f1,_,f3,f4,f5⟩:=hf b hb;exact⟨f3,f1,f4,f5⟩
end
def  PTs (X:Cx) (ifs:Od) (t:TT):Prop:=
 ∀ (pins:N1) (s:Shared) (σ:St) (H:Hp) (Q:Bool->Hp->Prop),Inv X pins σ H s->t σ H Q->
  wpAny (!4) X.A (forIn ifs true λc r=>if r=true then do let ok<-isTrue c X.env (eval c X.env);pure (ForInStep.yield ok)else pure (ForInStep.yield r)) (TP X pins σ Q) X.xe s
def  Mt:TT:=λ_ H Q=>Q true H
def pts_nil:PTs X [] Mt:=λ_ _ _ H _ I h=>wpAny_tests_nil ⟨H,I,h⟩
def CZ (h:PT X c t):PTs X [c] t:=λpins s σ H Q I q=>wpAny_tests_one (h pins s σ H Q I q)
section
variable {prog:Program} {w:World} {A:Around} {R:Result->Shared->Prop} {s:Shared}
def uI (I:Nat->Shared->Prop) (turn:∀n s,I n s->wpAny (!6) A (pyNext it) (λr s1=>match r with
   |none=>R (.ok .next) s1
   |some v=>wpAny (!6) A (letOwnedTupleGo tg it v) (λ_ s2=>wpAny (!6) A (assign tg env v) (λ_ s3=>
    wpAny (!6) A (forIn ifs true λc r=>if r=true then do let ok<-isTrue c env (eval c env);pure (ForInStep.yield ok)else pure (ForInStep.yield r)) (λok s4=>
     if ok=true then wpAny (!6) A (eval elt env) (λx s5=>wpAny (!6) A (call (.builtin "list.append") [acc,x]) (λ_ s6=>∃m,m<n/\I m s6) (λ_ _=>False) s5) (λ_ _=>False) s4
     else∃m,m<n/\I m s4) (λ_ _=>False) s3) (λ_ _=>False) s2) (λ_ _=>False) s1) (λ_ _=>False) s) (n:Nat) (h:I n s):codeAny (!6) A (.compLoop (!9) 0 it acc env) R s:=by
 refine codeAny_loop rfl I (λk s' hI=>?_) n h
 show wpAny _ A ((compTurn (!9) 0 it acc env).onRaise (λx=>do noteFrame x env;theTreesLotGoes x)) _ _ s'
 refine wpAny_noted ?_
 rw[compTurn_list]
 refine Og (wpAny_standAt (Og (OG (turn k s' hI) (λr s1 h1=>?_) λ_ _ z=>z.elim)))
 cases r with
 |none=>exact Oi h1
 |some v=>
  refine Og (OG h1 (λ_ s2 h2=>?_) λ_ _ z=>z.elim);refine Og (OG h2 (λ_ s3 h3=>?_) λ_ _ z=>z.elim);refine Og (OG h3 (λok s4 h4=>?_) λ_ _ z=>z.elim);cases ok with
  |false=>exact Oi ⟨rfl,h4⟩
  |true=>
   refine Og (Og (OG h4 (λx s5 h5=>?_) λ_ _ z=>z.elim));exact Og (OG h5 (λ_ s6 h6=>Oi (Oi ⟨rfl,h6⟩)) λ_ _ z=>z.elim)
end
def  Mu (σ σ':St):Prop:=σ'.length=σ.length/\∀ (i:Nat) (v:V),σ[i]?=!(!v)->σ'[i]?=!(!v)
def  Fg (J:It) (ks:N7) (g:TG) (tt:TT) (te:TE) (σ:St) (Fin:List V->Hp->Prop) (W:Nat->Nat->List V->Hp->Prop):Prop:=∀i m ys H2,W i m ys H2->
 (J.stop i H2/\ys.length<=sizeLine/\Fin ys H2)\/
 (J.go i H2/\ys.length<sizeLine/\∀x H3,J.yld i H2 x H3->g x (eW ks σ) H3 λσ4 H4=>Mu (eW ks σ) σ4/\tt σ4 H4 λc H5=>
  if c=true then te σ4 H5 λy H6=>∃m',m'<m/\W (i+1) m' (ys++[y]) H6 else∃m',m'<m/\W (i+1) m' ys H5)
def  sC (wi:TI) (ks:N7) (g:TG) (tt:TT) (te:TE):TE:=λσ H Q=>wi σ H λJ H1=>∃W:Nat->Nat->List V->Hp->Prop,(∃m,W 0 m [] H1)/\
 Fg J ks g tt te σ (λys H2=>∀p,H2 p=none->Q (.ref p) (upd H2 p (.lst ys))) W
section
variable {X:Cx} {scope:Scope} {ks:N7} {tg elt iter:Expr} {ifs:Od} {g:TG} {tt:TT} {te:TE} {pos:Pos}
def mI {σ:St} {RR:Value->Addr->Result->Shared->Prop} {Fin} (hc:X.calm=true) (S:CSc X scope ks) (I2:Inv X pins σ H2 s2) (T:Turn X.prog X.w X.K tg J fp it tn) (st:tn 0 s2.heap) (f2:∀b∈fp,iX X pins H2 b) (hg:∀C s H,PG (!11) tg g) (htt:∀C s H,PTs (!11) ifs tt) (he:∀C s H,PE (!11) elt te) (w0:∃m,W 0 m [] H2) (turn:Fg J ks g tt te σ Fin W) (hR:∀D C H3 s3 m ys,Inv X pins σ (upd H3 D (.lst ys)) s3->H3 D=none->upd H3 D (.lst ys) C=none->C≠X.env.locals->s2.heap.objs.size<=C->s3.heap.Ns C m->Fin ys H3->RR (.ref D) C (.ok .next) s3):
  wpAny (!4) X.A (newList []) (λacc s₃=>wpAny (!4) X.A (newFunctionEnv scope X.env.globals (qD X.env scope) [] X.env.qual none .none (!X.env)) (λcenv s₄=>
   codeAny (!4) X.A (.compStart (!9) 0 (.ref it) acc {cenv with scope:=relabel scope X.env}) (RR acc cenv.locals) s₄) E s₃) E s2:=by
 have hlt:∀b∈fp,b<s2.heap.objs.size:=λb hb=>by
  let⟨o,e,_⟩:=T.obj _ _ st b hb
  exact Oj e
 refine wpAny_newObj_type (wpAny_newFunctionEnv S.nocell (by intro y hy;simp at hy) (λh₁ hns₁ hsb₁=>?_) S.kind)
 generalize hH2:s2.heap.push {cls:=.type "list",dict:=none,data:=.seq ([]:N5).toArray}=G at hns₁ hsb₁⊢
 have hCe:G.objs.size=s2.heap.objs.size+1:=by rw[<-hH2,Heap.size_push]
 have hDC:s2.heap.objs.size≠G.objs.size:=by rw[hCe];exact Ow (Nat.lt_succ_self _)
 have hC:s2.heap.objs.size<=G.objs.size:=by rw[hCe];exact Nat.le_succ _
 have old:∀b o,s2.heap.get? b=!o->h₁.get? b=!o:=λb o e=>
  hsb₁.extBut b o (Ow (Ot (Oj e) hC)) (Oh _ (hH2▸Oh _ e))
 have hacc:h₁.get? s2.heap.objs.size=some {cls:=.type "list",data:=.seq ([]:N5).toArray 0}:=hsb₁.extBut _ _ hDC (Oh _ (hH2▸Ol _ rfl))
 generalize hDn:s2.heap.objs.size=D at*
 generalize hCn:G.objs.size=C at*
 have st₁:=T.keep _ _ _ st λb hb o e=>old b o e
 let ρ:=cxC X scope C s2 H2 fp
 have fpY:∀ {pl:N1} {H':Hp},(∀b∈fp,H' b=none)->(∀p∈pl,D<=p.1)->∀b∈fp,iX ρ pl H' b:=λ{pl H'} hn hp b hb=>by
  refine⟨hn b hb,Ow (Ot (hlt b hb) hC),λz=>?_,.inl hb,((uH I2 S f2 (hDn▸hlt) (hDn▸hC)).exf b hb).2,λp hq=>?_⟩
  .exact(uH I2 S f2 (hDn▸hlt) (hDn▸hC)).exfs b hb z
  .have hq':p∈[]++pl:=hq
   have:=hp p (by simpa using hq')
   exact Nat.ne_of_gt (Ot (hlt b hb) this)
 have loop:∀tk,codeAny (!4) X.A (.compLoop (!9) 0 (.ref it) (.ref D) (compEnvC scope (qD X.env scope) C X.env)) (RR (.ref D) C) {s2 with heap:=h₁,toks:=tk}:=λtk=>by
  let⟨m0,w0⟩:=w0
  refine uI (λn s'=>∃i ys its cap H',Inv ρ [(D,{cls:=.type "list",data:=.seq (List.toArray its) cap})] _ H' s'/\Vals ys its/\tn i s'.heap/\(∀b∈fp,H' b=none)/\W i n ys H') ?_ m0
   ⟨0,[],[],0,H2,xO I2 S f2 (hDn▸hlt) (hDn▸OF _) (hDn▸hC) hDC old hns₁ hacc,.nil,st₁,λb hb=>(f2 b hb).1,w0⟩
  rintro n s3 ⟨i,ys,its,cap,H3,I3,rv,st3,fr3,w3⟩
  have pinD:∀p∈[(D,({cls:=.type "list",data:=.seq _ cap}:Obj))],D<=p.1:=λp hp=>by
   have e:p=(D,{cls:=.type "list",data:=.seq (List.toArray its) cap}):=by simpa using hp
   rw[e];exact OF _
  rcases turn i n ys H3 w3 with⟨stop,hz,fin⟩|⟨go,hz,step⟩
  .refine thn (T.done ρ rfl rfl rfl hc i _ s3 _ H3 (λ_ _=>False) I3 (fpY fr3 pinD) st3 stop) λr s4 ⟨hr,I4⟩=>?_
   subst hr
   have hD4:=I4.pin (D,{cls:=.type "list",data:=.seq _ cap}) (OA _ Oo)
   let⟨m4,hn4,_⟩:=I4.loc
   have JX:=CY I2 I4 f2 (Nat.le_of_eq hDn) hD4.2.1 hD4.1 rv hz
   exact hR D C H3 s4 m4 ys JX hD4.2.1 (by rw[ae (Ne.symm hDC)];exact I4.free) (Nat.ne_of_gt (Ot I2.lt (hDn▸hC))) hC hn4 fin
  .refine thn (T.item ρ rfl rfl rfl hc i _ s3 _ H3 (λ_ _=>False) I3 (fpY fr3 pinD) st3 go) λr s4 ⟨u,hr,h4⟩=>?_
   subst hr
   refine thn h4 λ_ s5 ⟨x,H5,I5,r5,y5,st5,fr5⟩=>?_
   have I5':=I5.pinned (fpY fr5 pinD) (T.obj _ _ st5)
   refine thn (hg C s2 H2 _ s5 _ H5 x u _ I5' r5 (step x H5 y5)) λ_ s6 ⟨σ6,H6,I6,kp,q6⟩=>?_
   refine thn (htt C s2 H2 _ s6 σ6 H6 _ I6 q6) λok s7 ⟨H7,I7,q7⟩=>?_
   -- the iterator's own objects stand
   have stay:∀ {H':Hp} {s':Shared},Inv ρ ([(D,({cls:=.type "list",data:=.seq (List.toArray its) cap}:Obj))]++my fp s5.heap) σ6 H' s'->tn (i+1) s'.heap/\∀b∈fp,H' b=none:=λ{H' s'} I'=>by
    refine⟨T.keep _ _ _ st5 λb hb o e=>(I'.pin (b,o) (OA _ (OA _ (fX hb e)))).1,λb hb=>?_⟩
    let⟨o,e,_⟩:=T.obj _ _ st5 b hb
    exact(I'.pin (b,o) (OA _ (OA _ (fX hb e)))).2.1
   cases ok with
   |false=>
    let⟨m',hm,w7⟩:=q7
    let⟨t7,n7⟩:=stay I7
    exact⟨m',hm,i+1,ys,its,cap,H7,I7.unpinned.weak kp.1.symm kp.2,rv,t7,n7,w7⟩
   |true=>
    refine thn (he C s2 H2 _ s7 σ6 H7 _ I7 q7) λy s8 ⟨yv,H8,I8,r8,m',hm,w8⟩=>?_
    let⟨t8,n8⟩:=stay I8
    have hD8:=I8.pin (D,{cls:=.type "list",data:=.seq _ cap}) (OA _ (Oz _ Oo))
    have hlen:=rv.length
    refine append_at hD8.1 (λh9 sb hD9=>?_) (by rw[size_toArray];omega)
    have I9:Inv ρ [] σ6 H8 {s8 with heap:=h9,toks:=s8.toks}:=Inv.turned (I8.pins_of λp hp=>nomatch hp) (λb o hb e=>sb.extBut b o hb e) hD8.2.1 hD8.2.2.1 (.inr (Nat.le_of_eq hDn))
     (λx c e z=>by
      let⟨v,q⟩:=I8.cell x c e
      let⟨o,ho,hd⟩:=q
      rw[z,hD8.1]at ho
      cases ho
      exact hD8.2.2.2.2 v hd) (λp hp=>nomatch(hp))
    have e9:h9.get? D=some {cls:=.type "list",data:=.seq (List.toArray (its++[y])) (cap+1)}:=by
     rw[hD9];simp
    have I10:Inv ρ [(D,{cls:=.type "list",data:=.seq _ _})] σ6 H8 {s8 with heap:=h9,toks:=s8.toks}:=I9.pins_of λp hp=>by
     have e:p=(D,{cls:=.type "list",data:=.seq (List.toArray (its++[y])) (cap+1)}):=by simpa using hp
     subst e
     exact⟨e9,hD8.2.1,hD8.2.2.1,hD8.2.2.2.1,λv z=>by
      have z':=z
      cases z'⟩
    refine⟨m',hm,i+1,ys++[yv],its++[y],cap+1,H8,I10.weak kp.1.symm kp.2,rv.append (.cons r8 .nil),T.keep _ _ _ t8 λb hb o e=>sb.extBut b o (Ow (hlt b hb)) e,n8,w8⟩
 exact codeAny_compStart_list (loop _) (T.self _ 0 _ _ _ st₁ (loop _))
def C0 (hc:X.calm=true) (S:CSc X scope ks) (hi:PI X tg iter wi) (hg:∀C s H fp,PG (!11) tg g) (htt:∀C s H fp,PTs (!11) ifs tt) (he:∀C s H fp,PE (!11) elt te) (hs:∀x,foldedSetIterable iter X.env x=pure x:=by intro _;rfl):PE X (!9) (sC wi ks g tt te):=by
 intro pins s σ H Q I h;refine wpAny_comprehension_free rfl hs (mF (I.cells_of S)) S.kind S.names (thn (hi pins s σ H _ I h) λv s1 h1=>thn h1 λitv s2 h2=>?_);let⟨it,fp,tn,J,H2,e,I2,T,st2,f2,W,w0,turn⟩:=h2;subst e;refine mI hc S I2 T st2 f2 (λC s H=>hg C s H fp) (λC s H=>htt C s H fp) (λC s H=>he C s H fp) w0 turn ?_;intro D C H3 s3 m ys I3 hD hC hCL hCz hns fin;refine⟨m,hns,λh' sb=>?_⟩;refine⟨.ref D,upd H3 D _,?_,rfl,fin D hD⟩;exact I3.turned (λb o hb e=>sb.extBut b o hb e) hC hCL (.inr (Ov I2.sz hCz)) (λx c e z=>by
  let⟨v,o,ho,hd⟩:=I2.cell x c e;exact absurd (Ot (Oj ho) hCz) (by rw[z];exact OB _)) λp hp z=>absurd (Ot (Oj (I2.pin p hp).1) hCz) (by rw[z];exact OB _)
def C3 (hN:X.N.Nodup) (hx:X.N[i]?=!x) (hl:X.env.scope.names.lookup x=some .local) (hc:X.calm=true) (S:CSc X scope ks) (hi:PI X tg iter wi) (hg:∀C s H fp,PG (!11) tg g) (htt:∀C s H fp,PTs (!11) ifs tt) (he:∀C s H fp,PE (!11) elt te) (hsw:swapsWith (!9) (!(!18)) spos.line X.env=pure true) (hs:∀x,foldedSetIterable iter X.env x=pure x:=by intro _;rfl):PS X (.Assign [.Name x px] (!9) spos) (y8 (sC wi ks g tt te) (so i)):=by
 intro pins s σ H Q I h;rw[exec_Assign_Name_used _ _ _ _ hsw];refine Og (wpAny_standAt (Og ?_));refine Og (OG (wpAny_comprehension_free rfl hs (mF (I.cells_of S)) S.kind S.names
  (thn (hi pins s σ H _ I h) λv s1 h1=>thn h1 λitv s2 h2=>?_)) (λ_ s' hq=>Oi (Oi hq)) λ_ _ e=>e)
 let⟨it,fp,tn,J,H2,e,I2,T,st2,f2,W,w0,turn⟩:=h2;subst e;refine mI hc S I2 T st2 f2 (λC s H=>hg C s H fp) (λC s H=>htt C s H fp) (λC s H=>he C s H fp) w0 turn ?_;intro D C H3 s3 m ys I3 hD hC hCL hCz hns fin;refine wpAny_assign_Name (pD (v:=.ref D) I3 hN hx (.inl hl) rfl (λs4 I4 ⟨a,sb,ha⟩=>?_) (.inr hl));have hCa:C≠a:=by
  rcases ha with z|z
  .rw[z];exact hCL
  .intro q;let⟨v,o,ho,hd⟩:=I2.cell x a z;exact absurd (Ot (Oj ho) hCz) (by rw[q];exact OB _)
 refine⟨m,hns.sameBut sb hCa,λh' sb'=>?_⟩;refine⟨σ.set i _,upd H3 D _,?_,fin D hD⟩;exact I4.turned (λb o hb e=>sb'.extBut b o hb e) hC hCL (.inr (Ov I2.sz hCz)) (λx c e z=>by
   let⟨v,o,ho,hd⟩:=I2.cell x c e;exact absurd (Ot (Oj ho) hCz) (by rw[z];exact OB _)) λp hp z=>absurd (Ot (Oj (I2.pin p hp).1) hCz) (by rw[z];exact OB _)
end
section
variable {κ:Type} [DecidableEq κ]
noncomputable def  qE (kvs:List (κ×V)) (k:κ):Option V:=(kvs.find? λkv=>decide (kv.1=k)).map (·.2)
noncomputable def  jn (kvs:List (κ×V)) (k:κ) (v:V):List (κ×V):=
 if(kvs.any λkv=>decide (kv.1=k))=true then kvs.map (λkv=>if kv.1=k then(kv.1,v)else kv)else kvs++[(k,v)]
def sD {k:κ} (e:p.1=k):qE (p::r) k=!p.2:=by simp[qE,List.find?_cons,e]
def sE {k:κ} (e:¬p.1=k):qE (p::r) k=qE r k:=by simp[qE,List.find?_cons,e]
def sF (kvs:List (κ×V)) (k:κ) (v:V):(jn kvs k v).length<=kvs.length+1:=by grind [jn]
def KV.val (r:KV kvs vs) (k:κ):RelO (qE kvs k) (valueAt vs k):=by
 induction r with
 |nil=>exact True.intro
 |@cons p q ps qs h t ih=>
  let⟨h1,h2⟩:=h;by_cases e:p.1=k
  .have e':q.1=k:=h1.symm.trans e;have b:valueAt (q::qs) k=!q.2:=by simp[valueAt,List.find?_cons,e']
   rw[sD e,b];exact h2
  .have e':¬q.1=k:=λz=>e (h1.trans z);have b:valueAt (q::qs) k=valueAt qs k:=by simp[valueAt,List.find?_cons,e']
   rw[sE e,b];exact ih
def KV.any (r:KV kvs vs) (k:κ):(kvs.any λkv=>decide (kv.1=k))=vs.any λkv=>decide (kv.1=k):=by
 induction r with
 |nil=>rfl
 |cons h t ih=>rw[List.any_cons,List.any_cons,ih,h.1]
def KV.repl (r:KV kvs vs) (k:κ) (ry:RelV y u):
  KV (kvs.map λkv=>if kv.1=k then(kv.1,y)else kv) (vs.map λkv=>if kv.1=k then(kv.1,u)else kv):=by
 induction r with
 |nil=>exact .nil
 |@cons p q ps qs h t ih=>
  rw[List.map_cons,List.map_cons];refine .cons ?_ ih;let⟨h1,h2⟩:=h;by_cases e:p.1=k
  .rw[if_pos e,if_pos (h1.symm.trans e)];exact⟨h1,ry⟩
  .rw[if_neg e,if_neg (λz=>e (h1.trans z))];exact⟨h1,h2⟩
def KV.put (r:KV kvs vs) (k:κ) (ry:RelV y u):KV (jn kvs k y) (stored vs k u):=by
 unfold jn stored;rw[r.any];by_cases e:(vs.any λkv=>decide (kv.1=k))=true
 .rw[if_pos e,if_pos e];exact r.repl k ry
 .rw[if_neg e,if_neg e];exact Paired.snoc r ⟨rfl,ry⟩
def KV.length {vs:List (κ×Value)} (r:KV kvs vs):kvs.length=vs.length:=Paired.length r
end
def Fh (r:RelV (kV k) u):(dC P w).is k u=true:=by
 cases k with
 |inl i=>let⟨t,e⟩:=(r);subst e;exact sf P w i t
 |inr x=>let⟨t,e⟩:=(r);subst e;exact sg P w x t
section
variable {P:Program} {w:World} {H:Hp} {h:Heap} {a:Addr}
def JD (ok:HOk P w H h) (e:Rd H a u):ObjOk P w H h a u:=e.ok ok
def JE (ok:HOk P w H h) (e:Rd H a (.dK kvs)):kvs.length<=sizeLine/\(a==sysModules)=false/\∃vs,KV kvs vs/\h.DictOf (dC P w) a vs:=
 show ObjOk P w H h a (.dK kvs)from JD ok e
def Fi (ok:HOk P w H h) (e:H a=!(.dK kvs)):kvs.length<=sizeLine/\(a==sysModules)=false/\∃vs,KV kvs vs/\h.DictOf (dC P w) a vs:=JE ok (.inl e)
end
section
variable {X:Cx} {pins:N1} {σ:St} {H:Hp} {s:Shared} {a:Addr} {y v:V} {u r:Value} {o:Option V} {A:Around} {E:N4}
def Inv.big (I:Inv X pins σ H s):sysModules<s.heap.objs.size:=by
 have h:=(I.mod.glob.keeps I.bk).lt;exact Nat.lt_trans (!5) h
def C4 (I:Inv X pins σ H s) (mu:Mut (H a)) (hs:Heap.SameBut a s.heap h') (he:∃q,h'.get? a=!q) (new:ObjOk X.prog X.w (upd H a ob) h' a ob):
  Inv X pins σ (upd H a ob) {s with heap:=h',toks:=t'}:=
 I.write mu (.inl rfl) (λb q hb z=>(hs.2 b hb).trans z) he new
def Gj (z:kvs.length<=sizeLine) (hd:(a==sysModules)=false) (rel:KV kvs vs) (dd:h'.DictOf (dC P w) a vs):
 ObjOk P w H' h' a (.dK kvs):=⟨z,hd,vs,rel,dd⟩
end
section
variable {X:Cx} {pins:N1} {σ:St} {H:Hp} {s:Shared} {a:Addr} {kvs:List (Key×V)} {k:Key} {u:Value} {A:Around} {E:N4}
end
section
variable {X:Cx} {o i e value:Expr} {pos pos' tpos:Pos} {td ty tv:TE}
end
def zB (h:Heap) (hb:sysModules<h.objs.size):ObjOk P w H (h.push {cls:=.type "dict",data:=.dict #[]}) h.objs.size (.dK []):=
 ⟨Nat.zero_le _,beq_eq_false_iff_ne.mpr (Ne.symm (Ow hb)),[],.nil,Heap.DictOf.new h⟩
def  Gk:TE:=λ_ H Q=>∀p,H p=none->Q (.ref p) (upd H p (.dK []))
section
variable {X:Cx} {pos:Pos}
def pe_dnewK:PE X (.Dict [] [] pos) Gk:=λpins s σ H Q I h=>
 wpAny_Dict_empty ⟨.ref s.heap.objs.size,_,I.laid (λ_ _ q=>Oh _ q) (OF _) (zB s.heap I.big),rfl,h _ (I.hok.fresh (OF _))⟩
end
section
variable {X:Cx}
end
end L2
namespace HT
open PySem PySem.Spec PyProof.Rows
def zC (A:Around) (s:Shared) (a:Int) (t:Tok) (c:Int) (u:Tok) (prog:Program) (w:World) (E:N4) (Q:N4) (h:Q (.bool (decide (c<a))) s):
  wpAny (!6) A (richCompare .Gt (.int a t) (.int c u)) Q E s:=
 (PyProof.Rows.gt_int h:wpAny _ A (compareOp .Gt _ _) Q E s)
section
open PySem.SeqAt
open PySem.AutoSeq1 (wpAny_loadPart')
open PySem.MeetsSeq PySem.MeetsSeq2 PySem.MeetsSeq3
def oC (l b:Addr) (items items2:Ob) (n n2:Nat) (dd dd2:Option Addr) (sl sl2:Array (N6)) (ns ms:N9) (hi:IntsAre items.toList ns) (hj:IntsAre items2.toList ms):
  Meets (Builtin.«tuple.__gt__» ⟨[.ref l,.ref b],[]⟩)
   (λ_ R s=>s.heap.get? l=some {cls:=.type "tuple",dict:=dd,data:=.seq items n,slots:=sl}/\s.heap.get? b=some {cls:=.type "tuple",dict:=dd2,data:=.seq items2 n2,slots:=sl2}/\
    R (.ok (.ret (.bool (lexLt ms ns)))) s):=
 .of_wp λprog w A R s h=>by
  let⟨hp,g,d,tk,os⟩:=s;let⟨hl,hb,h⟩:=h;have f2:=AutoSeq1.sub_tuple_tuple;have z1:items.size=ns.length:=by rw[<-hi.length];simp
  have z2:items2.size=ms.length:=by rw[<-hj.length];simp
  wp_walk using wpAny_loadPart' hl,wpAny_loadPart' hb,wpAny_forIn_list _ (λrest b s'=>b.1=none/\s'=⟨hp,g,d,tk,os⟩/\∃ (vs ws:N5) (ns' ms':N9),rest=vs.zip ws/\
   IntsAre vs ns'/\IntsAre ws ms'/\ns'.length+items2.size=ms'.length+items.size/\R (.ok (.ret (.bool (lexLt ms' ns')))) ⟨hp,g,d,tk,os⟩) _
  case turn=>
   rintro⟨y,x⟩ rest b s' ⟨hb',rfl,vs,ws,ns',ms',hz,hvi,hwi,hlen,hR⟩;cases hvi with
   |nil=>rw[List.zip_nil_left]at hz;cases hz
   |cons a t hvi'=>
    cases hwi with
    |nil=>rw[List.zip_nil_right]at hz;cases hz
    |cons c u hwi'=>
     rw[List.zip_cons_cons]at hz;injection hz with hyx hrest;injection hyx with hy hx;subst hy hx;rw[lexLt_cons]at hR;simp only[length_cons]at hlen;let⟨e,he,hiff⟩:=sv A.in1 ⟨hp,g,d,tk,os⟩ a t c u;refine Og (he prog w _ _ ?_);cases e with
     |true=>
      rw[if_pos (hiff.mp rfl).symm]at hR;wp_walk;exact⟨rfl,rfl,_,_,_,_,hrest,hvi',hwi',by omega,hR⟩
     |false=>
      rw[if_neg (λq=>absurd (hiff.mpr q.symm) Bool.false_ne_true)]at hR;have hri:=zC A.in1 ⟨hp,g,d,tk,os⟩ a t c u prog w;wp_walk using hri;exact⟨_,rfl,by simpa using hR⟩
  case fin=>
   rintro⟨b1,b2⟩ s' ⟨hb',rfl,vs,ws,ns',ms',hz,hvi,hwi,hlen,hR⟩;simp only at hb';subst hb';have hv:lexLt ms' ns'=decide (items2.size<items.size):=by
    cases hvi with
    |nil=>
     cases hwi with
     |nil=>
      simp only[List.length_nil]at hlen;rw[iL];exact(decide_eq_false (!1)).symm
     |cons c u hw=>
      simp only[List.length_nil,length_cons]at hlen;rw[gz];exact(decide_eq_false (!1)).symm
    |cons a t hv=>
     cases hwi with
     |nil=>
      simp only[List.length_nil,length_cons]at hlen;rw[gy];exact(decide_eq_true (!1)).symm
     |cons c u hw=>
      rw[List.zip_cons_cons]at hz;cases hz
   rw[hv]at hR;wp_walk;exact⟨_,rfl,by simpa [Builtin.Tuple.tupleCompareSizes] using hR⟩
  case h=>
   exact⟨rfl,rfl,items.toList,items2.toList,ns,ms,rfl,hi,hj,by omega,h⟩
end
section
variable {prog:Program} {w:World} {A:Around} {E:N4} {s:Shared}
def gt_tupInts (hl:IsTup s.heap l items) (hb:IsTup s.heap b items2) (hi:IntsAre items.toList ns) (hj:IntsAre items2.toList ms) (hu:A.units<cLine) (h:Q (.bool (lexLt ms ns)) s):wpAny (!6) A (compareOp .Gt (.ref l) (.ref b)) Q E s:=by
 let⟨⟨cls,dd,data,sl⟩,ho,hc,n,hd⟩:=id hl;let⟨⟨cls2,dd2,data2,sl2⟩,ho2,hc2,n2,hd2⟩:=id hb;subst hc hd hc2 hd2;exact richCompare_meets_room (op:=.Gt) ⟨_,ho,rfl⟩ ⟨_,ho2,rfl⟩ PySem.F.slot_tuple_gt PySem.F.entry_tuple_gt (PySem.F.args_tuple_gt_2 _ _) (oC l b items items2 n n2 dd dd2 sl sl2 ns ms hi hj)
  ⟨ho,ho2,show Value.bool (lexLt ms ns)≠Value.notImplemented/\Q (.bool (lexLt ms ns)) s from⟨(λx=>nomatch x),h⟩⟩ hu
end
end HT
namespace L2
open PySem PySem.Spec PyProof.Rows
section
variable {X:Cx}
def  JF (K:Frag):R2:=λx y H Q=>∃a b ns ms,x=.ref a/\y=.ref b/\SqT K H a (ns.map V.int)/\SqT K H b (ms.map V.int)/\Q (.bl (HT.lexLt ms ns)) H
def zD (hu:X.A.units<cLine):OpR X (compareOp .Gt) (JF X.K):=by
 intro pins s σ H x y v u Q I rx ry h;let⟨a,b,ns,ms,rfl,rfl,ha,hb,q⟩:=h;cases rx;cases ry;let⟨its,r1,p1,_⟩:=I.tuple ha;let⟨its2,r2,p2,_⟩:=I.tuple hb;have i1:=dQ r1;have i2:=dQ r2;exact HT.gt_tupInts p1 p2 i1 i2 hu ⟨.bl _,H,I,rfl,q⟩
end
inductive D where
 |non
 |bl (b:Bool)
 |int (i:Int)
 |str (x:Str)
 |ty (n:String)
 |adr (a:Addr)
 |tup (ds:List D)
 |lst (ds:List D)
 |obj (C:Str) (ns:N8) (ds:List D)
 |dct (ks:List Key) (ds:List D)
abbrev _root_.Oe:=Option D
abbrev _root_.Oc:=List D
abbrev _root_.N3:=Option (List D)
mutual
noncomputable def  Is (K:Frag) (H:Hp):D->V->Prop
 |.non,v=>v=.non
 |.bl b,v=>v=.bl b
 |.int i,v=>v=.int i
 |.str x,v=>v=.str x
 |.ty n,v=>v=.ty n
 |.adr a,v=>v=.ref a
 |.tup ds,v=>∃a xs,v=.ref a/\SqT K H a xs/\IsL K H ds xs
 |.lst ds,v=>∃a xs,v=.ref a/\SqL K H a xs/\IsL K H ds xs
 |.obj C ns ds,v=>∃a Ca dx fs,v=.ref a/\nsIn K mainGlobals C=!(!(.ref Ca))/\H a=!(.ins Ca dx fs)/\fs.map (·.1)=ns/\IsL K H ds (fs.map (·.2))
 |.dct ks ds,v=>∃a kvs,v=.ref a/\H a=!(.dK kvs)/\kvs.map (·.1)=ks/\IsL K H ds (kvs.map (·.2))
noncomputable def  IsL (K:Frag) (H:Hp):Oc->List V->Prop
 |[],xs=>xs=[]
 |d::ds,xs=>∃x r,xs=x::r/\Is K H d x/\IsL K H ds r
end
def Same.seqT {K} (e:Same H H') (h:SqT K H a xs):SqT K H' a xs:=by
 rcases h with(h|⟨o,h⟩)|h
 .exact .inl (.inl (e _ _ h))
 .exact .inl (.inr ⟨o,e _ _ h⟩)
 .exact .inr h
mutual
theorem Is.mono {K:Frag} {H H':Hp} (s:Same H H'):∀ (d:D) (v:V),Is K H d v->Is K H' d v
 |.non,_,h=>h
 |.bl _,_,h=>h
 |.int _,_,h=>h
 |.str _,_,h=>h
 |.ty _,_,h=>h
 |.adr _,_,h=>h
 |.tup ds,_,⟨a,xs,e,q,l⟩=>⟨a,xs,e,s.seqT q,IsL.mono s ds xs l⟩
 |.lst ds,_,⟨a,xs,e,q,l⟩=>⟨a,xs,e,s.seq q,IsL.mono s ds xs l⟩
 |.obj _ _ ds,_,⟨a,Ca,dx,fs,e,c,q,z,l⟩=>⟨a,Ca,dx,fs,e,c,s _ _ q,z,IsL.mono s ds _ l⟩
 |.dct _ ds,_,⟨a,kvs,e,q,z,l⟩=>⟨a,kvs,e,s _ _ q,z,IsL.mono s ds _ l⟩
theorem IsL.mono {K:Frag} {H H':Hp} (s:Same H H'):∀ (ds:Oc) (xs:List V),IsL K H ds xs->IsL K H' ds xs
 |[],_,h=>h
 |d::ds,_,⟨x,r,e,h,l⟩=>⟨x,r,e,Is.mono s d x h,IsL.mono s ds r l⟩
end
def IsL.paired {K}:∀ {ds:Oc} {xs:List V},IsL K H ds xs->Paired (Is K H) ds xs
 |[],_,h=>by cases(show _=[]from h);exact .nil
 |_::_,_,⟨_,_,e,h,l⟩=>by cases e;exact .cons h (IsL.paired l)
def IsL.of {K}:∀ {ds:Oc} {xs:List V},Paired (Is K H) ds xs->IsL K H ds xs
 |_,_,.nil=>rfl
 |_,_,.cons h l=>⟨_,_,rfl,h,IsL.of l⟩
def IsL.len {K} (h:IsL K H ds xs):ds.length=xs.length:=Paired.length h.paired
def mJ:∀ {a c:List α} {b d:List β},Paired F a b->Paired F c d->Paired F (a++c) (b++d)
 |_,_,_,_,.nil,h=>h
 |_,_,_,_,.cons h l,q=>.cons h (mJ l q)
def fZ:∀ {a:List α} {b:List β} {i:Nat} {x:α},Paired F a b->a[i]?=!x->∃y,b[i]?=!y/\F x y
 |_,_,_,_,.nil,e=>by simp at e
 |_,_,0,_,.cons h _,e=>by simp at e;subst e;exact⟨_,rfl,h⟩
 |_,_,i+1,_,.cons _ l,e=>by
  let⟨y,h1,h2⟩:=fZ (i:=i) l (by simpa using e);exact⟨y,by simpa using h1,h2⟩
def paired_get':∀ {a:List α} {b:List β} {i:Nat} {y:β},Paired F a b->b[i]?=!y->∃x,a[i]?=!x/\F x y
 |_,_,_,_,.nil,e=>by simp at e
 |_,_,0,_,.cons h _,e=>by simp at e;subst e;exact⟨_,rfl,h⟩
 |_,_,i+1,_,.cons _ l,e=>by
  let⟨y,h1,h2⟩:=paired_get' (i:=i) l (by simpa using e);exact⟨y,by simpa using h1,h2⟩
def mK {x:α} {y:β} (h:F x y):∀ {a:List α} {b:List β} (i:Nat),Paired F a b->Paired F (a.set i x) (b.set i y)
 |_,_,_,.nil=>.nil
 |_,_,0,.cons _ l=>.cons h l
 |_,_,i+1,.cons q l=>.cons q (mK h i l)
def kZ:∀ {a:List α} {b:List β} (n:Nat),Paired F a b->Paired F (a.take n) (b.take n)
 |_,_,0,_=>.nil
 |_,_,_+1,.nil=>.nil
 |_,_,n+1,.cons h l=>.cons h (kZ n l)
def lb:∀ {a:List α} {b:List β} (n:Nat),Paired F a b->Paired F (a.drop n) (b.drop n)
 |_,_,0,h=>h
 |_,_,_+1,.nil=>.nil
 |_,_,n+1,.cons _ l=>lb n l
def IsL.app {K} (h:IsL K H ds xs) (q:IsL K H es ys):IsL K H (ds++es) (xs++ys):=.of (mJ h.paired q.paired)
def IsL.get {K} {i:Nat} (h:IsL K H ds xs) (e:ds[i]?=!d):∃x,xs[i]?=!x/\Is K H d x:=fZ h.paired e
def IsL.get' {K} {i:Nat} (h:IsL K H ds xs) (e:xs[i]?=!x):∃d,ds[i]?=!d/\Is K H d x:=paired_get' h.paired e
noncomputable def  msk (O:Oa) (H:Hp):Hp:=λb=>if O b=true then none else H b
def aJ (h:msk O H b=!o):O b=false/\H b=!o:=by
 unfold msk at h;split at h
 .cases h
 .rename_i q;exact⟨by simpa using q,h⟩
def aA (h:O b=false):msk O H b=H b:=by unfold msk;rw[if_neg (by simp[h])]
def msk_le:Same (msk O H) H:=λ_ _ h=>(aJ h).2
def Same.msk (s:Same H H'):Same (msk O H) (msk O H'):=λb o h=>by
 let⟨h1,h2⟩:=aJ h;rw[aA h1];exact s b o h2
def eH (h:O a=true):msk O (upd H a o)=msk O H:=by
 funext b;unfold L2.msk;by_cases hb:b=a
 .subst hb;rw[if_pos h,if_pos h]
 .rw[ae hb]
def l8 (h:O a=false):msk O (upd H a o)=upd (msk O H) a o:=by
 funext b;by_cases hb:b=a
 .subst hb;rw[aA h,ai,ai]
 .rw[ae hb];unfold L2.msk;rw[ae hb]
def Same.new (h:H a=none):Same H (upd H a o):=λb u q=>by rw[ae (ak q h)];exact q
def Is.full {K} (h:Is K (msk O H) d v):Is K H d v:=Is.mono msk_le d v h
def IsL.full {K} (h:IsL K (msk O H) d v):IsL K H d v:=IsL.mono msk_le d v h
abbrev Vv:=List (Option D)
abbrev _root_.Fr:=Vv->Option Bool
abbrev _root_.wp:=Vv->Option D
abbrev _root_.dl:=Vv->Option (List D)
def  Hid (o:Option HO):Prop:=(∃xs,o=!(.lst xs))\/(∃C dx fs,o=!(.ins C dx fs))\/∃kvs,o=!(.dK kvs)
def Hid.ne (h:Hid o):o≠none:=by grind [Hid]
def Hid.same (s:Same H H') (h:Hid (H b)):Hid (H' b):=by
 rcases h with⟨xs,e⟩|⟨C,dx,fs,e⟩|⟨kvs,e⟩
 .exact .inl ⟨xs,s _ _ e⟩
 .exact .inr (.inl ⟨C,dx,fs,s _ _ e⟩)
 .exact .inr (.inr ⟨kvs,s _ _ e⟩)
structure VE (K:Frag) (O:Oa) (σ:St) (H:Hp) (Y:Vv):Prop where
 lis:∀b,O b=true->Hid (H b)
 len:σ.length=Y.length
 sh:∀ (i:Nat) (d:D),Y[i]?=!(!d)->∃v,σ[i]?=!(!v)/\Is K (msk O H) d v
section
variable {K:Frag} {O:Oa} {σ:St} {H H':Hp} {Y:Vv}
def VE.dom (E:VE K O σ H Y):∀b,O b=true->H b≠none:=λb h=>(E.lis b h).ne
def VE.grow (E:VE K O σ H Y) (s:Same H H'):VE K O σ H' Y where
 lis:=λb h=>(E.lis b h).same s
 len:=E.len
 sh:=λi d h=>let⟨v,e,q⟩:=E.sh i d h;⟨v,e,Is.mono s.msk d v q⟩
def fH (hd:∀b,O b=true->H b≠none) (h:H p=none):O p=false:=by grind
def VE.fresh (E:VE K O σ H Y) (h:H p=none):O p=false:=fH E.dom h
def get_set_some {α:Type} {l:List (Option α)} {x} {y} (h:(l.set i x)[j]?=!(!y)):(j=i/\x=!y)\/(j≠i/\l[j]?=!(!y)):=by grind
def pL {α:Type} {l:List (Option α)} {x} {y} (h:(l.set i x)[i]?=!y):i<l.length:=by grind
def VE.set (E:VE K O σ H Y) {i:Nat} {d:D} {v:V} (h:Is K (msk O H) d v):VE K O (σ.set i (!v)) H (Y.set i (!d)) where
 lis:=E.lis
 len:=by simpa using E.len
 sh:=λj d' q=>by
  rcases get_set_some q with⟨e,q'⟩|⟨e,q'⟩
  .cases q';subst e;have hi:j<σ.length:=by rw[E.len];exact pL q
   exact⟨v,by simp[hi],h⟩
  .let⟨v',e',q2⟩:=E.sh j d' q';exact⟨v',by rw[List.getElem?_set_ne (Ne.symm e)];exact e',q2⟩
def wipe_iff {σ} {v:α}:(eW ks σ)[i]?=some (!v)↔σ[i]?=!(!v)/\i ∉ ks:=⟨mH ks σ i v,λh=>sy ks σ i v h.1 h.2⟩
def VE.wiped (E:VE K O σ H Y) (ks:N7):VE K O (eW ks σ) H (eW ks Y) where
 lis:=E.lis
 len:=by rw[jm,jm];exact E.len
 sh:=λi d q=>by
  let⟨q1,q2⟩:=wipe_iff.mp q;let⟨v,e,r⟩:=E.sh i d q1;exact⟨v,wipe_iff.mpr ⟨e,q2⟩,r⟩
end
def  tP (K:Frag) (O:Oa) (Y:Vv) (o:Oe):TE:=λσ H Q=>VE K O σ H Y/\∃d,o=!d/\∀v H',Same H H'->Is K (msk O H') d v->Q v H'
def  tPF (K:Frag) (O:Oa) (Y:Vv) (o:N3):TE:=λσ H Q=>VE K O σ H Y/\∃ds,o=!ds/\∀p xs H',Same H H'->H' p=none->IsL K (msk O H') ds xs->Q (.ref p) (upd H' p (.lst xs))
def  tPT (K:Frag) (O:Oa) (Y:Vv) (o:Option Bool):TT:=λσ H Q=>VE K O σ H Y/\∃b,o=!b/\∀H',Same H H'->Q b H'
def  tPA (K:Frag) (O:Oa) (Y:Vv) (o:N3):TA:=λσ H Q=>VE K O σ H Y/\∃ds,o=!ds/\∀vs H',Same H H'->IsL K (msk O H') ds vs->Q vs H'
def  PP (X:Cx) (e:Expr) (f:wp):Prop:=∀O Y,PE X e (tP X.K O Y (f Y))
def  PF (X:Cx) (e:Expr) (f:dl):Prop:=∀O Y,PE X e (tPF X.K O Y (f Y))
def  PQ (X:Cx) (e:Expr) (f:Fr):Prop:=∀O Y,PT X e (tPT X.K O Y (f Y))
def  PX (X:Cx) (es:Od) (f:dl):Prop:=∀O Y,PA X es (tPA X.K O Y (f Y))
noncomputable def  bO (Y:Vv) (i:Nat):Oe:=match Y[i]? with
 |some (!d)=>!d
 |_=>none
def pM (h:bO Y i=!d):Y[i]?=!(!d):=by
 unfold bO at h;grind
section
variable {X:Cx} {pos:Pos}
def mL (i:Nat) (hN:X.N[i]?=!x:=by rfl) (hv:Vis X.env.scope x:=by first|exact Or.inl rfl|exact Or.inr (Or.inl rfl)|exact Or.inr (Or.inr rfl)) (hd:(!7)=false:=by decide) (hcd:(!12)=false:=by decide):PP X (.Name x pos) (λY=>bO Y i):=λO Y=>(bT hN hv hd hcd).imp λσ H Q ⟨E,d,e,k⟩=>by
 let⟨v,e1,e2⟩:=E.sh i d (pM e);exact⟨v,e1,k v H (Same.refl _) e2⟩
def pp_int:PP X (.Constant (.int i) j pos) (λ_=>!(.int i)):=λO Y=>pe_int.imp λσ H Q ⟨E,d,e,k⟩=>by
 cases e;exact k _ H (Same.refl _) rfl
def pp_bl:PP X (.Constant (.bool b) j pos) (λ_=>!(.bl b)):=λO Y=>pe_bl.imp λσ H Q ⟨E,d,e,k⟩=>by
 cases e;exact k _ H (Same.refl _) rfl
def pp_non:PP X (.Constant .none j pos) (λ_=>some .non):=λO Y=>pe_non.imp λσ H Q ⟨E,d,e,k⟩=>by
 cases e;exact k _ H (Same.refl _) rfl
def pp_str:PP X (.Constant (.str x) j pos) (λ_=>!(.str x)):=λO Y=>pe_str.imp λσ H Q ⟨E,d,e,k⟩=>by
 cases e;exact k _ H (Same.refl _) rfl
def JG (hg:Gl X x) (hm:X.mg x=none) (hv:bootBuiltins x=!(.type n)) (hn:x≠"__name__":=by decide) (hd:(!7)=false:=by decide):PP X (.Name x pos) (λ_=>!(.ty n)):=
 λO Y=>(CK (v:=.ty n) hg hm hv rfl hn hd).imp λσ H Q ⟨E,d,e,k⟩=>by
 cases e;exact k _ H (Same.refl _) rfl
def C5 (hg:Gl X x) (hm:X.mg x=!u) (r:RelV v u) (h:∀H,Is X.K H d v) (hd:(!7)=false:=by decide):PP X (.Name x pos) (λ_=>!d):=
 λO Y=>(CJ hg hm r hd).imp λσ H Q ⟨E,d',e,k⟩=>by
 cases e;exact k _ H (Same.refl _) (h _)
def  R2D (K:Frag) (r:R2) (g:D->D->Oe):Prop:=∀ (O:Oa) (H:Hp) (x y:V) (dx dy d:D) (Q:VK),(∀b,O b=true->H b≠none)->Is K (msk O H) dx x->Is K (msk O H) dy y->g dx dy=!d->
 (∀v H',Same H H'->Is K (msk O H') d v->Q v H')->r x y H Q
noncomputable def  aa (g:D->D->Oe) (fa fb:wp):wp:=λY=>(fa Y).bind λx=>(fb Y).bind λy=>g x y
def bind_some {α β:Type} {o} {f:α->Option β} {b} (h:o.bind f=!b):∃a,o=!a/\f a=!b:=by
 cases o with
 |none=>cases h
 |some a=>exact⟨a,rfl,h⟩
abbrev _root_.OH:=@bind_some
def l9 (hr:R2D X.K r g) (h:tP X.K O Y (aa g fa fb Y) σ H Q):
  tOp r (tP X.K O Y (fa Y)) (tP X.K O Y (fb Y)) σ H Q:=by
 let⟨E,d,e,k⟩:=h
 let⟨dx,e1,e⟩:=OH e
 let⟨dy,e2,e3⟩:=OH e
 refine⟨E,dx,e1,λx H1 s1 i1=>⟨E.grow s1,dy,e2,λy H2 s2 i2=>?_⟩⟩
 exact hr O H2 x y dx dy d Q (E.grow (s1.trans s2)).dom (Is.mono s2.msk dx x i1) i2 e3 λv H' s3 i3=>k v H' (s1.trans (s2.trans s3)) i3
def pN (ho:OpR X (binaryOp op) r) (hr:R2D X.K r g) (ha:PP X a fa) (hb:PP X b fb):PP X (.BinOp a op b pos) (aa g fa fb):=
 λO Y=>(Fc ho (ha O Y) (hb O Y)).imp λσ H Q h=>l9 hr h
def pp_cmp (ho:OpR X (compareOp op) r) (hr:R2D X.K r g) (ha:PP X a fa) (hb:PP X b fb) (hm:behindInMarks op b=false):PP X (.Compare a [op] [b] pos) (aa g fa fb):=
 λO Y=>(CL ho (ha O Y) (hb O Y) hm).imp λσ H Q h=>l9 hr h
noncomputable def  D.asB:D->Option Bool
 |.bl b=>!b
 |_=>none
def asB_some {d:D} (h:d.asB=!b):d=.bl b:=by
 cases d<;>first|(cases h;rfl)|cases h
def  ag (f:wp):Fr:=λY=>(f Y).bind D.asB
def pq_cmp (ho:OpR X (compareOp op) r) (hr:R2D X.K r g) (ha:PP X a fa) (hb:PP X b fb) (hm:behindInMarks op b=false):PQ X (.Compare a [op] [b] pos) (ag (aa g fa fb)):=
 λO Y=>(CM ho (ha O Y) (hb O Y) hm).imp λσ H Q h=>by
 let⟨E,b,e,k⟩:=h
 let⟨d,e1,e2⟩:=OH e
 cases asB_some e2
 refine l9 hr ⟨E,.bl b,e1,λv H' s i=>?_⟩
 cases(i)
 exact⟨b,rfl,k H' s⟩
def  df (g g':D->D->Oe) (fa fb fc:wp):wp:=λY=>(fa Y).bind λx=>(fb Y).bind λy=>(g x y).bind λz=>z.asB.bind λk=>if k=true then(fc Y).bind λw=>g' y w else !(.bl false)
def pO (hr:R2D X.K r g) (hr':R2D X.K r' g') (h:tP X.K O Y (df g g' fa fb fc Y) σ H Q):
  uw r r' (tP X.K O Y (fa Y)) (tP X.K O Y (fb Y)) (tP X.K O Y (fc Y)) σ H Q:=by
 let⟨E,d,ea,k⟩:=h
 let⟨dx,e1,eb⟩:=OH ea
 let⟨dy,e2,ec⟩:=OH eb
 let⟨dz,e3,ed⟩:=OH ec
 let⟨b,e4,e⟩:=OH ed
 clear ea eb ec ed
 cases asB_some e4
 refine⟨E,dx,e1,λx H1 s1 i1=>⟨E.grow s1,dy,e2,λy H2 s2 i2=>?_⟩⟩
 refine hr O H2 x y dx dy _ _ (E.grow (s1.trans s2)).dom (Is.mono s2.msk dx x i1) i2 e3 λv H3 s3 i3=>⟨b,i3,?_⟩
 cases b with
 |true=>
  let⟨dw,e5,e6⟩:=OH e;refine⟨E.grow (s1.trans (s2.trans s3)),dw,e5,λw' H4 s4 i4=>?_⟩;exact hr' O H4 y w' dy dw d Q (E.grow (s1.trans (s2.trans (s3.trans s4)))).dom (Is.mono (s3.trans s4).msk dy y i2) i4 e6 λv' H5 s5 i5=>k v' H5 (s1.trans (s2.trans (s3.trans (s4.trans s5)))) i5
 |false=>
  cases e;exact k _ H3 (s1.trans (s2.trans s3)) rfl
def zE (ho:OpR X (compareOp op) r) (ho':OpR X (compareOp op') r') (hr:R2D X.K r g) (hr':R2D X.K r' g') (ha:PP X a fa) (hb:PP X b fb) (hc:PP X c fc) (hm:lastMarks [op,op'] [b,c]=false:=by with_unfolding_all rfl):PP X (.Compare a [op,op'] [b,c] pos) (df g g' fa fb fc):=λO Y=>(zd ho ho' (ha O Y) (hb O Y) (hc O Y) hm).imp λσ H Q h=>pO hr hr' h
def zF (ho:OpR X (compareOp op) r) (ho':OpR X (compareOp op') r') (hr:R2D X.K r g) (hr':R2D X.K r' g') (ha:PP X a fa) (hb:PP X b fb) (hc:PP X c fc) (hm:lastMarks [op,op'] [b,c]=false:=by with_unfolding_all rfl):PQ X (.Compare a [op,op'] [b,c] pos) (ag (df g g' fa fb fc)):=λO Y=>(ze ho ho' (ha O Y) (hb O Y) (hc O Y) hm).imp λσ H Q h=>by
 let⟨E,b,e,k⟩:=h;let⟨d,e1,e2⟩:=OH e;cases asB_some e2;refine pO hr hr' ⟨E,.bl b,e1,λv H' s i=>?_⟩;cases(i);grind
noncomputable def  JH:D->D->Oe
 |.int i,.int j=>!(.int (i+j))
 |_,_=>none
noncomputable def  bU:D->D->Oe
 |.int i,.int j=>!(.int (i-j))
 |_,_=>none
instance (i j:Int):Decidable (CMul i j):=Classical.propDecidable _
def  C8 (_ j:Int):Prop:=0<j/\j.natAbs.log2<9000
instance (i j:Int):Decidable (C8 i j):=Classical.propDecidable _
def C9:OpR X (binaryOp .FloorDiv) (rI C8 λi j=>.int (i/j)):=opI λi j _ _ _ _ _ hc q=>by
 have h1:=hc.1;exact floordiv_int (!1) (by rw[Int.fdiv_eq_ediv_of_nonneg i (!1)];exact q) (.inl (PyProof.noPylong_of_log2 hc.2))
instance (i j:Int):Decidable (Ml i j):=Classical.propDecidable _
noncomputable def  az:D->D->Oe
 |.int i,.int j=>if CMul i j then !(.int (i*j))else none
 |_,_=>none
noncomputable def  bw:D->D->Oe
 |.int i,.int j=>if C8 i j then !(.int (i/j))else none
 |_,_=>none
noncomputable def  aP:D->D->Oe
 |.int i,.int j=>if 0<j then !(.int (i%j))else none
 |_,_=>none
noncomputable def  bb:Oc->Option (N9)
 |[]=>![]
 |.int i::ds=>(bb ds).bind λxs=>!(i::xs)
 |_::_=>none
noncomputable def  ltI:D->D->Oe
 |.int i,.int j=>!(.bl (decide (i<j)))
 |_,_=>none
def  ltT:D->D->Oe
 |.tup ds,.tup es=>(bb ds).bind λxs=>(bb es).bind λys=>!(.bl (HT.lexLt xs ys))
 |_,_=>none
def  ltD (x y:D):Oe:=match ltI x y with
 |some d=>!d
 |none=>ltT x y
noncomputable def  leD:D->D->Oe
 |.int i,.int j=>!(.bl (decide (i<=j)))
 |_,_=>none
noncomputable def  gtI:D->D->Oe
 |.int i,.int j=>!(.bl (decide (j<i)))
 |_,_=>none
def  gtT:D->D->Oe
 |.tup ds,.tup es=>(bb ds).bind λxs=>(bb es).bind λys=>!(.bl (HT.lexLt ys xs))
 |_,_=>none
def  gtD (x y:D):Oe:=match gtI x y with
 |some d=>!d
 |none=>gtT x y
noncomputable def  geD:D->D->Oe
 |.int i,.int j=>!(.bl (decide (j<=i)))
 |_,_=>none
def wf {K} {g:Int->Int->Int} (hf:∀x y d,f x y=!d->∃i j,x=.int i/\y=.int j/\d=.int (g i j)):R2D K (rI0 λi j=>.int (g i j)) f:=λO H x y dx dy d Q _ ix iy e k=>by
 let⟨i,j,rfl,rfl,rfl⟩:=hf dx dy d e;exact⟨i,j,ix,iy,k _ H (Same.refl _) rfl⟩
def mM {K} {g:Int->Int->Bool} (hf:∀x y d,f x y=!d->∃i j,x=.int i/\y=.int j/\d=.bl (g i j)):R2D K (rI0 λi j=>.bl (g i j)) f:=λO H x y dx dy d Q _ ix iy e k=>by
 let⟨i,j,rfl,rfl,rfl⟩:=hf dx dy d e;exact⟨i,j,ix,iy,k _ H (Same.refl _) rfl⟩
def qF {K} {g:Int->Int->Int} (hf:∀x y d,f x y=!d->∃i j,x=.int i/\y=.int j/\C i j/\d=.int (g i j)):R2D K (rI C λi j=>.int (g i j)) f:=λO H x y dx dy d Q _ ix iy e k=>by
 let⟨i,j,rfl,rfl,hc,rfl⟩:=hf dx dy d e;exact⟨i,j,ix,iy,hc,k _ H (Same.refl _) rfl⟩
def gD {f:Int->Int->Oe} {x y d:D} (h:(match x,y with|.int i,.int j=>f i j|_,_=>none)=!d):∃i j,x=.int i/\y=.int j/\f i j=!d:=by grind
def JI {K}:R2D K (rI0 λi j=>.int (i+j)) JH:=wf λx y d e=>by
 let⟨i,j,h1,h2,e⟩:=gD e;cases e;exact⟨_,_,h1,h2,rfl⟩
def JJ {K}:R2D K (rI0 λi j=>.int (i-j)) bU:=wf λx y d e=>by
 let⟨i,j,h1,h2,e⟩:=gD e;cases e;exact⟨_,_,h1,h2,rfl⟩
def ar {α:Type} [Decidable c] {a b:α} (h:(if c then !a else none)=!b):c/\a=b:=by grind
def JK {K}:R2D K (rI CMul λi j=>.int (i*j)) az:=qF λx y d e=>by
 let⟨i,j,h1,h2,e⟩:=gD e;let⟨c,e⟩:=ar e;cases e;exact⟨_,_,h1,h2,c,rfl⟩
def JL {K}:R2D K (rI C8 λi j=>.int (i/j)) bw:=qF λx y d e=>by
 let⟨i,j,h1,h2,e⟩:=gD e;let⟨c,e⟩:=ar e;cases e;exact⟨_,_,h1,h2,c,rfl⟩
def JM {K}:R2D K (rI (λ_ j=>0<j) λi j=>.int (i%j)) aP:=qF λx y d e=>by
 let⟨i,j,h1,h2,e⟩:=gD e;let⟨c,e⟩:=ar e;cases e;exact⟨_,_,h1,h2,c,rfl⟩
def r_ltI {K}:R2D K (rI0 λi j=>.bl (decide (i<j))) ltI:=mM λx y d e=>by
 let⟨i,j,h1,h2,e⟩:=gD e;cases e;exact⟨_,_,h1,h2,rfl⟩
def xP {K}:R2D K (rI0 λi j=>.bl (decide (i<=j))) leD:=mM λx y d e=>by
 let⟨i,j,h1,h2,e⟩:=gD e;cases e;exact⟨_,_,h1,h2,rfl⟩
def r_gtI {K}:R2D K (rI0 λi j=>.bl (decide (j<i))) gtI:=mM λx y d e=>by
 let⟨i,j,h1,h2,e⟩:=gD e;cases e;exact⟨_,_,h1,h2,rfl⟩
def bI {K}:∀ {ds:Oc} {ns:N9} {xs:List V},bb ds=!ns->IsL K H ds xs->xs=ns.map V.int
 |[],ns,xs,e,h=>by cases e;exact h
 |.int i::ds,ns,xs,e,⟨x,r,e1,h1,l⟩=>by
  let⟨ms,e2,e3⟩:=OH (show(bb ds).bind (λxs=>!(i::xs))=some ns from e);cases e3;cases(show x=.int i from h1);rw[e1,bI e2 l];rfl
def JN {K}:R2D K (λx y H Q=>rI0 (λi j=>.bl (decide (i<j))) x y H Q\/Jy K x y H Q) ltD:=λO H x y dx dy d Q hd ix iy e k=>by
 unfold ltD at e;cases h:ltI dx dy with
 |some z=>rw[h]at e;cases e;exact .inl (r_ltI O H x y dx dy _ Q hd ix iy h k)
 |none=>
  rw[h]at e;have e:ltT dx dy=!d:=e;unfold ltT at e;split at e
  .let⟨ns,e1,e⟩:=OH e;let⟨ms,e2,e⟩:=OH e;cases e;let⟨a,xs,rfl,t1,l1⟩:=ix;let⟨b,ys,rfl,t2,l2⟩:=iy;rw[bI e1 l1]at t1;rw[bI e2 l2]at t2;exact .inr ⟨a,b,ns,ms,rfl,rfl,msk_le.seqT t1,msk_le.seqT t2,k _ H (Same.refl _) rfl⟩
  .cases e
def JO {K}:R2D K (λx y H Q=>rI0 (λi j=>.bl (decide (j<i))) x y H Q\/JF K x y H Q) gtD:=λO H x y dx dy d Q hd ix iy e k=>by
 unfold gtD at e;cases h:gtI dx dy with
 |some z=>rw[h]at e;cases e;exact .inl (r_gtI O H x y dx dy _ Q hd ix iy h k)
 |none=>
  rw[h]at e;have e:gtT dx dy=!d:=e;unfold gtT at e;split at e
  .let⟨ns,e1,e⟩:=OH e;let⟨ms,e2,e⟩:=OH e;cases e;let⟨a,xs,rfl,t1,l1⟩:=ix;let⟨b,ys,rfl,t2,l2⟩:=iy;rw[bI e1 l1]at t1;rw[bI e2 l2]at t2;exact .inr ⟨a,b,ns,ms,rfl,rfl,msk_le.seqT t1,msk_le.seqT t2,k _ H (Same.refl _) rfl⟩
  .cases e
def Da (ha:PP X a fa) (hb:PP X b fb):PP X (.BinOp a .Add b pos) (aa JH fa fb):=pN F7 JI ha hb
def Gm (ha:PP X a fa) (hb:PP X b fb):PP X (.BinOp a .Sub b pos) (aa bU fa fb):=pN F8 JJ ha hb
def Gn (ha:PP X a fa) (hb:PP X b fb):PP X (.BinOp a .Mult b pos) (aa az fa fb):=pN F9 JK ha hb
def Go (ha:PP X a fa) (hb:PP X b fb):PP X (.BinOp a .FloorDiv b pos) (aa bw fa fb):=pN C9 JL ha hb
def Gp (ha:PP X a fa) (hb:PP X b fb):PP X (.BinOp a .Mod b pos) (aa aP fa fb):=pN Ga JM ha hb
def JP (hu:X.A.units<cLine) (ha:PP X a fa) (hb:PP X b fb):PP X (.Compare a [.Lt] [b] pos) (aa ltD fa fb):=pp_cmp (op_lt.or (zu hu)) JN ha hb (eT _)
def JQ (ha:PP X a fa) (hb:PP X b fb):PP X (.Compare a [.LtE] [b] pos) (aa leD fa fb):=pp_cmp pE xP ha hb (eT _)
def JR (hu:X.A.units<cLine) (ha:PP X a fa) (hb:PP X b fb):PP X (.Compare a [.Gt] [b] pos) (aa gtD fa fb):=pp_cmp (op_gt.or (zD hu)) JO ha hb (eT _)
def JS (hu:X.A.units<cLine) (ha:PP X a fa) (hb:PP X b fb):PQ X (.Compare a [.Lt] [b] pos) (ag (aa ltD fa fb)):=pq_cmp (op_lt.or (zu hu)) JN ha hb (eT _)
def JT (ha:PP X a fa) (hb:PP X b fb):PQ X (.Compare a [.LtE] [b] pos) (ag (aa leD fa fb)):=pq_cmp pE xP ha hb (eT _)
def JU (hu:X.A.units<cLine) (ha:PP X a fa) (hb:PP X b fb):PQ X (.Compare a [.Gt] [b] pos) (ag (aa gtD fa fb)):=pq_cmp (op_gt.or (zD hu)) JO ha hb (eT _)
def pp_lele (ha:PP X a fa) (hb:PP X b fb) (hc:PP X c fc) (hm:lastMarks [.LtE,.LtE] [b,c]=false:=by with_unfolding_all rfl):PP X (.Compare a [.LtE,.LtE] [b,c] pos) (df leD leD fa fb fc):=zE pE pE xP xP ha hb hc hm
def pq_lele (ha:PP X a fa) (hb:PP X b fb) (hc:PP X c fc) (hm:lastMarks [.LtE,.LtE] [b,c]=false:=by with_unfolding_all rfl):PQ X (.Compare a [.LtE,.LtE] [b,c] pos) (ag (df leD leD fa fb fc)):=zF pE pE xP xP ha hb hc hm
def  oE (fa fb:wp):wp:=λY=>(fa Y).bind λx=>x.asB.bind λc=>if c=true then fb Y else !(.bl false)
def  orF (fa fb:wp):wp:=λY=>(fa Y).bind λx=>x.asB.bind λc=>if c=true then !(.bl true)else fb Y
def  Db (fa:wp):wp:=λY=>(fa Y).bind λx=>x.asB.bind λc=>!(.bl (not c))
noncomputable def  Gq (fa fb:Fr):Fr:=λY=>(fa Y).bind λc=>if c=true then fb Y else !false
noncomputable def  orQ (fa fb:Fr):Fr:=λY=>(fa Y).bind λc=>if c=true then !true else fb Y
noncomputable def  cC (fa:Fr):Fr:=λY=>(fa Y).map (not ·)
noncomputable def  ifF (fc:Fr) (fa fb:wp):wp:=λY=>(fc Y).bind λc=>if c=true then fa Y else fb Y
variable {a b c:Expr} {rest:Od}
def Gs (h:PP X a f):PP X (.BoolOp op [a] pos) f:=λO Y=>FX (h O Y)
def Gu (ha:PP X a fa) (hb:PP X (.BoolOp .And (b::rest) pos) fb):PP X (.BoolOp .And (a::b::rest) pos) (oE fa fb):=λO Y=>(FY (ha O Y) (hb O Y)).imp λσ H Q ⟨E,d,e,k⟩=>by
 let⟨dx,e1,eb⟩:=OH e;let⟨c,e2,ec⟩:=OH eb;clear e eb;have e:=ec;cases asB_some e2;refine⟨E,_,e1,λv H1 s1 i1=>⟨c,i1,?_⟩⟩;cases c with
 |true=>rw[if_pos rfl]at e⊢;exact⟨E.grow s1,d,e,λv' H2 s2 i2=>k v' H2 (s1.trans s2) i2⟩
 |false=>rw[if_neg Bool.false_ne_true]at e⊢;cases e;exact k _ H1 s1 rfl
def Gv (ha:PP X a fa):PP X (.UnaryOp .Not a pos) (Db fa):=λO Y=>(FZ (ha O Y)).imp λσ H Q ⟨E,d,e,k⟩=>by
 let⟨dx,e1,eb⟩:=OH e;let⟨c,e2,ec⟩:=OH eb;have e:=ec;cases asB_some e2;cases e;exact⟨E,_,e1,λv H1 s1 i1=>⟨c,i1,k _ H1 s1 rfl⟩⟩
def  PWQ (X:Cx) (e:Expr) (f:Fr):Prop:=∀O Y,PW X e (tPT X.K O Y (f Y))
def PWQ.pq (h:PWQ X a f):PQ X a f:=λO Y=>(h O Y).pt
def PW.imp (h:PW X e t) (k:∀σ H Q,t' σ H Q->t σ H Q):PW X e t':=λwh pins s σ H Q I q=>h wh pins s σ H Q I (k _ _ _ q)
def pw_and1D (h:PQ X a f):PWQ X (.BoolOp .And [a] pos) f:=λO Y=>pw_and1 (h O Y)
def pw_or1D (h:PQ X a f):PWQ X (.BoolOp .Or [a] pos) f:=λO Y=>pw_or1 (h O Y)
def pw_andD (ha:PQ X a fa) (hb:PWQ X (.BoolOp .And (b::rest) pos) fb):PWQ X (.BoolOp .And (a::b::rest) pos) (Gq fa fb):=λO Y=>(pw_and (ha O Y) (hb O Y)).imp λσ H Q ⟨E,d,e,k⟩=>by
 let⟨c,e1,eb⟩:=OH e;have e:=eb;refine⟨E,c,e1,λH1 s1=>?_⟩;cases c with
 |true=>rw[if_pos rfl]at e⊢;exact⟨E.grow s1,d,e,λH2 s2=>k H2 (s1.trans s2)⟩
 |false=>rw[if_neg Bool.false_ne_true]at e⊢;cases e;exact k H1 s1
def pw_orD (ha:PQ X a fa) (hb:PWQ X (.BoolOp .Or (b::rest) pos) fb):PWQ X (.BoolOp .Or (a::b::rest) pos) (orQ fa fb):=λO Y=>(pw_or (ha O Y) (hb O Y)).imp λσ H Q ⟨E,d,e,k⟩=>by
 let⟨c,e1,eb⟩:=OH e;have e:=eb;refine⟨E,c,e1,λH1 s1=>?_⟩;cases c with
 |true=>rw[if_pos rfl]at e⊢;cases e;exact k H1 s1
 |false=>rw[if_neg Bool.false_ne_true]at e⊢;exact⟨E.grow s1,d,e,λH2 s2=>k H2 (s1.trans s2)⟩
def Gw (ha:PQ X a fa):PQ X (.UnaryOp .Not a pos) (cC fa):=λO Y=>(FW (ha O Y)).imp λσ H Q ⟨E,d,e,k⟩=>by
 unfold cC at e;cases q:fa Y with
 |none=>rw[q]at e;cases e
 |some c=>rw[q]at e;cases e;exact⟨E,c,rfl,λH1 s1=>k H1 s1⟩
def JV (hc:PQ X c fc) (ha:PP X a fa) (hb:PP X b fb):PP X (.IfExp c a b pos) (ifF fc fa fb):=λO Y=>(yY (hc O Y) (ha O Y) (hb O Y)).imp λσ H Q ⟨E,d,e,k⟩=>by
 let⟨c,e1,eb⟩:=OH e;have e:=eb;refine⟨E,c,e1,λH1 s1=>?_⟩;cases c with
 |true=>rw[if_pos rfl]at e⊢;exact⟨E.grow s1,d,e,λv' H2 s2 i2=>k v' H2 (s1.trans s2) i2⟩
 |false=>rw[if_neg Bool.false_ne_true]at e⊢;exact⟨E.grow s1,d,e,λv' H2 s2 i2=>k v' H2 (s1.trans s2) i2⟩
noncomputable def  uJ:D->Option Bool
 |.bl b=>!b
 |.int i=>!(i !=0)
 |.non=>!false
 |.lst ds=>!(not ds.isEmpty)
 |.tup ds=>!(not ds.isEmpty)
 |_=>none
def lg {α β:Type} {a:List α} {b:List β} (h:a.length=b.length):a.isEmpty=b.isEmpty:=by
 cases a<;>cases b<;>first|rfl|simp at h
def pq_val (h:PP X a f) (he:∀whole,isTrue a X.env whole=(do let v<-whole;standAt a.pos;holding [v] (truthy v)):=by intro _;rfl):PQ X a (λY=>(f Y).bind uJ):=λO Y=>(zf (h O Y) he).imp λσ H Q ⟨E,b,e,k⟩=>by
 let⟨d,e1,e⟩:=OH e;refine⟨E,d,e1,λv H1 s1 i1=>⟨b,?_,k H1 s1⟩⟩;cases d with
 |bl c=>cases e;cases(i1);rfl
 |int i=>cases e;cases(i1);rfl
 |non=>cases e;cases(i1);rfl
 |lst ds=>
  cases e;let⟨p,xs,rfl,q,l⟩:=i1;exact .inl ⟨xs,msk_le.seq q,by rw[lg l.len]⟩
 |tup ds=>
  cases e;let⟨p,xs,rfl,q,l⟩:=i1;exact .inr (.inl ⟨xs,msk_le.seqT q,by rw[lg l.len]⟩)
 |_=>cases e
end
noncomputable def  big:Nat:=16777216
def f6:sizeLine=big:=sizeLine_eq
section
variable {X:Cx} {pos:Pos} {a b c e:Expr} {es:Od}
def uK:PX X [] (λ_=>![]):=λO Y=>pa_nil.imp λσ H Q ⟨E,ds,e,k⟩=>by
 cases e;exact k [] H (Same.refl _) rfl
noncomputable def  ab (f:wp) (g:dl):dl:=λY=>(f Y).bind λd=>(g Y).bind λr=>!(d::r)
def px_cons (h:PP X e f) (hr:PX X es g) (hs:starEach (e::es) X.env=(false,eval e X.env)::starEach es X.env:=by rfl):PX X (e::es) (ab f g):=
 λO Y=>(bq (h O Y) (hr O Y) hs).imp λσ H Q ⟨E,ds,q,k⟩=>by
 let⟨d,e1,q⟩:=OH q
 let⟨r,e2,q⟩:=OH q
 cases q
 exact⟨E,d,e1,λv H1 s1 i1=>⟨E.grow s1,r,e2,λvs H2 s2 i2=>k _ H2 (s1.trans s2) ⟨v,vs,rfl,Is.mono s2.msk d v i1,i2⟩⟩⟩
def  bx (o:N3):N3:=o.bind λds=>if ds.length<big then !ds else none
def cF (h:bx o=!ds):o=!ds/\ds.length<sizeLine:=by
 let⟨d,e1,e2⟩:=OH h;let⟨h1,h2⟩:=ar e2;subst h2;exact⟨e1,by rw[f6];exact h1⟩
def zH {x1} (h:PX X es g):PP X (.Tuple es x1 pos) (λY=>(bx (g Y)).bind λds=>!(.tup ds)):=λO Y=>(uD (h O Y)).imp λσ H Q ⟨E,d,q,k⟩=>by
 let⟨ds,z,q2⟩:=OH q;cases q2;let⟨e1,e2⟩:=cF z;refine⟨E,ds,e1,λvs H1 s1 l=>⟨by rw[<-l.len];exact OC e2,λp hp=>?_⟩⟩;have hO:=(E.grow s1).fresh hp;have le:Same (msk O H1) (msk O (upd H1 p (.tup vs))):=by rw[l8 hO];exact Same.new (by rw[aA hO];exact hp)
 exact k _ _ (s1.trans (Same.new hp)) ⟨p,vs,rfl,.of (by rw[aA hO,ai]),IsL.mono le _ _ l⟩
def Gx (h:PX X es g):PF X (.List es pos) (λY=>bx (g Y)):=λO Y=>(zm (h O Y)).imp λσ H Q ⟨E,ds,q,k⟩=>by
 let⟨e1,e2⟩:=cF q;exact⟨E,ds,e1,λvs H1 s1 l=>⟨by rw[<-l.len];exact OC e2,λp hp=>k p vs H1 s1 hp l⟩⟩
noncomputable def  Gy:D->Option Key
 |.int i=>!(.inl i)
 |.str x=>!(.inr x)
 |_=>none
def wg {K} (e:Gy d=!k) (h:Is K H d v):v=kV k:=by
 cases d with
 |int i=>cases e;exact h
 |str x=>cases e;exact h
 |_=>cases e
noncomputable def  eu:List Key->Oc->Key->Oe
 |k::ks,d::ds,j=>if k=j then !d else eu ks ds j
 |_,_,_=>none
def valD_val {K}:∀ {kvs:List (Key×V)} {ds:Oc},IsL K H ds (kvs.map (·.2))->(eu (kvs.map (·.1)) ds j=none/\qE kvs j=none)\/∃d v,eu (kvs.map (·.1)) ds j=!d/\qE kvs j=!v/\Is K H d v
 |[],ds,_=>.inl ⟨by cases ds<;>rfl,rfl⟩
 |p::r,[],h=>by cases(show(p::r).map (·.2)=[]from h)
 |p::r,d::ds,⟨x,t,z,h,l⟩=>by
  have z':p.2::r.map (·.2)=x::t:=z;cases z';show((if p.1=j then !d else eu (r.map (·.1)) ds j)=none/\_)\/∃d' v,(if p.1=j then !d else eu (r.map (·.1)) ds j)=!d'/\_;by_cases e:p.1=j
  .rw[if_pos e,sD e];exact .inr ⟨d,p.2,rfl,rfl,h⟩
  .rw[if_neg e,sE e];exact valD_val l
def  JW:R2:=λx y H Q=>∃p kvs k v,x=.ref p/\y=kV k/\H p=!(.dK kvs)/\qE kvs k=!v/\Q v H
def Dc:IxR X JW:=by
 intro value slice pins s σ H x y v u Q I rx ry h hs;let⟨p,kvs,k,z,rfl,rfl,e,l,q⟩:=h;cases rx;let⟨_,hd,vs,rel,dd⟩:=Fi I.hok e;let⟨w',hw,rw'⟩:=RelO.some_of (by rw[<-l];exact rel.val k);exact tail_any dd.typeIs PySem.F.slot_dict_getitem.lookup (wpAny_getItem_of (Fh ry) dd.mapOf hw ⟨z,H,I.tok _,rw',q⟩) hs
def  ixD:D->D->Oe
 |.lst ds,.int i=>atI ds i
 |.tup ds,.int i=>atI ds i
 |.dct ks ds,e=>(Gy e).bind (eu ks ds)
 |_,_=>none
def wj {xs:List β} {d:α} (hl:ds.length=xs.length) (h:atI ds i=!d):∃j:Nat,ds[j]?=!d/\atI xs i=xs[j]?:=by
 let⟨j,e1,e2⟩:=OH h;grind [atI]
def Mv {K}:R2D K (λx y H Q=>rIx K x y H Q\/JW x y H Q) ixD:=λO H x y dx dy d Q hd ix iy e k=>by
 cases dx with
 |lst ds=>
  cases dy with
  |int i=>
   let⟨p,xs,rfl,q,l⟩:=ix;cases(show y=.int i from iy);let⟨j,e1,e2⟩:=wj l.len (e);let⟨v,e3,iv⟩:=l.get e1;exact .inl (.inl ⟨p,xs,i,v,rfl,rfl,msk_le.seq q,e2.trans e3,k v H (Same.refl _) iv⟩)
  |_=>cases e
 |tup ds=>
  cases dy with
  |int i=>
   let⟨p,xs,rfl,q,l⟩:=ix;cases(show y=.int i from iy);let⟨j,e1,e2⟩:=wj l.len (e);let⟨v,e3,iv⟩:=l.get e1;exact .inl (.inr (.inl ⟨p,xs,i,v,rfl,rfl,msk_le.seqT q,e2.trans e3,k v H (Same.refl _) iv⟩))
  |_=>cases e
 |dct ks ds=>
  let⟨p,kvs,rfl,q,rfl,l⟩:=ix;let⟨j,e1,e2⟩:=OH (e);rcases valD_val l with⟨z,_⟩|⟨d',v,z,hv,iv⟩
  .rw[z]at e2;cases e2
  .rw[z]at e2;cases e2;exact .inr ⟨p,kvs,j,v,rfl,wg e1 iy,msk_le _ _ q,hv,k v H (Same.refl _) iv⟩
 |_=>cases e
def pp_ix (ha:PP X a fa) (hb:PP X b fb) (hs:eG b:=by exactλ_ _=>rfl):PP X (.Subscript a b pos) (aa ixD fa fb):=λO Y=>(we (ix_seq.or Dc) (ha O Y) (hb O Y) hs).imp λσ H Q h=>l9 Mv h
def  RnD (K:Frag) (r:List V->Hp->VK->Prop) (g:Oc->Oe):Prop:=∀ (O:Oa) (H:Hp) (xs:List V) (ds:Oc) (d:D) (Q:VK),(∀b,O b=true->H b≠none)->IsL K (msk O H) ds xs->g ds=!d->
 (∀v H',Same H H'->Is K (msk O H') d v->Q v H')->r xs H Q
variable {x:Str} {p:Pos} {bid T:String} {r:List V->Hp->VK->Prop} {g:Oc->Oe} {fa:dl}
def pp_callB (hc:fG X (.builtin bid) r) (hr:RnD X.K r g) (hg:Gl X x) (hm:X.mg x=none) (hv:bootBuiltins x=!(.builtin bid)) (ha:PX X (e::es) fa) (hn:x≠"__name__":=by decide) (hdb:(!7)=false:=by decide)
  (he:starEach (e::es) X.env=(false,eval e X.env)::starEach es X.env:=by rfl) (hpl:(!15).any (·.1)=false:=by rfl):PP X (!17) (λY=>(fa Y).bind g):=
 λO Y=>(mC hc hg hm hv (ha O Y) hn hdb he hpl).imp λσ H Q ⟨E,d,q,k⟩=>by
 let⟨ds,e1,q⟩:=OH q
 exact⟨E,ds,e1,λvs H1 s1 l=>hr O H1 vs ds d Q (E.grow s1).dom l q λv H2 s2 i2=>k v H2 (s1.trans s2) i2⟩
def pp_callTy (hc:fG X (.type T) r) (hr:RnD X.K r g) (hg:Gl X x) (hm:X.mg x=none) (hv:bootBuiltins x=!(.type T)) (ha:PX X (e::es) fa) (hn:x≠"__name__":=by decide) (hdb:(!7)=false:=by decide)
  (he:starEach (e::es) X.env=(false,eval e X.env)::starEach es X.env:=by rfl) (hpl:(!15).any (·.1)=false:=by rfl):PP X (!17) (λY=>(fa Y).bind g):=
 λO Y=>(pJ hc hg hm hv (ha O Y) hn hdb he hpl).imp λσ H Q ⟨E,d,q,k⟩=>by
 let⟨ds,e1,q⟩:=OH q
 exact⟨E,ds,e1,λvs H1 s1 l=>hr O H1 vs ds d Q (E.grow s1).dom l q λv H2 s2 i2=>k v H2 (s1.trans s2) i2⟩
noncomputable def  un1 {α:Type} (g:D->Option α) (ds:Oc):Option α:=match ds with
 |[d]=>g d
 |_=>none
noncomputable def  un2 {α:Type} (g:D->D->Option α) (ds:Oc):Option α:=match ds with
 |[c,d]=>g c d
 |_=>none
def bh {g} {r:α} (h:un1 g ds=!r):∃d,ds=[d]/\g d=!r:=by
 cases ds with
 |nil=>cases h
 |cons d t=>
  cases t with
  |nil=>exact⟨d,rfl,h⟩
  |cons _ _=>cases h
def jo {g} {r:α} (h:un2 g ds=!r):∃c d,ds=[c,d]/\g c d=!r:=by
 cases ds with
 |nil=>cases h
 |cons c t=>
  cases t with
  |nil=>cases h
  |cons d u=>
   cases u with
   |nil=>exact⟨c,d,rfl,h⟩
   |cons _ _=>cases h
def is1 {K} (l:IsL K H [d] xs):∃v,xs=[v]/\Is K H d v:=by
 let⟨v,r,z,h,z2⟩:=l;cases(z2);exact⟨v,z,h⟩
def is2 {K} {c d} (l:IsL K H [c,d] xs):∃u v,xs=[u,v]/\Is K H c u/\Is K H d v:=by
 let⟨u,r,z,h,l2⟩:=l;let⟨v,z2,h2⟩:=is1 l2;grind
noncomputable def  seqD:D->N3
 |.lst ds=>!ds
 |.tup ds=>!ds
 |_=>none
def f7 {K} (e:seqD d=!ds) (h:Is K H d v):∃p xs,v=.ref p/\(SqL K H p xs\/SqT K H p xs)/\IsL K H ds xs:=by
 cases d with
 |lst es=>cases e;let⟨p,xs,z,q,l⟩:=h;exact⟨p,xs,z,.inl q,l⟩
 |tup es=>cases e;let⟨p,xs,z,q,l⟩:=h;exact⟨p,xs,z,.inr q,l⟩
 |_=>cases e
def Same.both {K} {a} (s:Same H H') (h:SqL K H a xs\/SqT K H a xs):SqL K H' a xs\/SqT K H' a xs:=by
 rcases h with h|h
 .exact .inl (s.seq h)
 .exact .inr (s.seqT h)
def  dg:Oc->Oe:=un1 λd=>(seqD d).bind λds=>!(.int ds.length)
def rn_len:RnD X.K (λxs H Q=>∃p ys,xs=[.ref p]/\(SqL X.K H p ys\/SqT X.K H p ys)/\Q (.int ys.length) H) dg:=λO H xs ds d Q hd l e k=>by
 let⟨c,rfl,e⟩:=bh e;let⟨es,e1,e2⟩:=OH e;cases e2;let⟨v,rfl,h⟩:=is1 l;let⟨p,ys,rfl,q,l2⟩:=f7 e1 h;exact⟨p,ys,rfl,msk_le.both q,k _ H (Same.refl _) (by show V.int ys.length=.int es.length;rw[l2.len])⟩
def  mN:Oc->N3:=un1 seqD
def Dd (hg:Gl X "list") (hm:X.mg "list"=none) (hv:bootBuiltins "list"=!(.type "list")) (ha:PX X [e] fa) (he:starEach [e] X.env=[(false,eval e X.env)]:=by rfl):PF X (.Call (.Name "list" p) [e] [] pos) (λY=>(fa Y).bind mN):=
 λO Y=>(pJ qB hg hm hv (ha O Y) (!5) (!5) he rfl).imp λσ H Q ⟨E,ds,q,k⟩=>by
 let⟨as,e1,q⟩:=OH q
 refine⟨E,as,e1,λvs H1 s1 l=>?_⟩
 let⟨c,rfl,q2⟩:=bh q
 let⟨v,rfl,h⟩:=is1 l
 let⟨p,ys,rfl,t,l2⟩:=f7 q2 h
 exact⟨p,ys,rfl,msk_le.both t,λb hb=>k b ys H1 s1 hb l2⟩
def  dh:Oc->Oe:=un1 λd=>(seqD d).bind λds=>!(.tup ds)
def rn_tuple:RnD X.K (λxs H Q=>∃p ys,xs=[.ref p]/\((SqL X.K H p ys/\∀l,H l=none->Q (.ref l) (upd H l (.tup ys)))\/(SqT X.K H p ys/\Q (.ref p) H))) dh:=λO H xs ds d Q hd l e k=>by
 let⟨c,rfl,e⟩:=bh e;let⟨es,e1,e2⟩:=OH e;cases e2;let⟨v,rfl,h⟩:=is1 l;let⟨p,ys,rfl,q,l2⟩:=f7 e1 h;refine⟨p,ys,rfl,?_⟩;rcases q with q|q
 .refine .inl ⟨msk_le.seq q,λc hc=>?_⟩;have hO:=fH hd hc;have le:Same (msk O H) (msk O (upd H c (.tup ys))):=by rw[l8 hO];exact Same.new (by rw[aA hO];exact hc)
  exact k _ _ (Same.new hc) ⟨c,ys,rfl,.of (by rw[aA hO,ai]),IsL.mono le _ _ l2⟩
 .exact .inr ⟨msk_le.seqT q,k _ H (Same.refl _) ⟨p,ys,rfl,q,l2⟩⟩
def sG:∀ {bs:List Bool} {us:N5},Vals (bs.map V.bl) us->us=bs.map Value.bool
 |[],_,.nil=>rfl
 |b::bs,_,.cons r t=>by
  cases(show _=Value.bool b from r);rw[sG t];rfl
def pP:∀ (bs:List Bool),((List.range bs.length).all λi=>bs.getD i true)=bs.all (λz=>z)
 |[]=>rfl
 |b::bs=>by
  rw[length_cons,List.range_succ_eq_map,List.all_cons,List.all_map,List.all_cons,<-pP bs];rfl
def call_all (hc:X.calm=true):fG X (.builtin "all") (λxs H Q=>∃ (p:Addr) (bs:List Bool),xs=[.ref p]/\SqL X.K H p (bs.map V.bl)/\Q (.bl (bs.all (λz=>z))) H):=by
 intro pins s σ H xs us Q I r h;let⟨l,bs,rfl,hl,q⟩:=h;let⟨u,rfl,ru⟩:=gq r;cases ru;let⟨its,rv,pl,hz⟩:=I.list hl;have eb:=sG rv;subst eb;have hL:=pl.isList;have hlt:l<s.heap.objs.size:=by let⟨_,e,_⟩:=hL;exact Oj e
 refine call_all_walk (wpAny_pyIter_list hL ?_);refine⟨s.heap.objs.size,[s.heap.objs.size,l],[s.heap.objs.size],_,_,_,λi=>bs.getD i true,rfl,Walks.list (A:=X.A.in1) (I.ok.hd hc) _ l (Ow hlt) (bs.map Value.bool).toArray,
  ⟨⟨_,Ol _ rfl,rfl,rfl⟩,hL.push _⟩,λi v s' Q' E' hP hQ=>?_,λh' tk hk=>?_⟩
 .have hP':(bs.map Value.bool)[i]?=!v:=by simpa using hP
  rw[getElem?_map]at hP';cases e:bs[i]? with
  |none=>rw[e]at hP';cases hP'
  |some b=>
   rw[e]at hP';cases hP';have e':bs.getD i true=b:=by rw[List.getD_eq_getElem?_getD,e];rfl
   dsimp only at hQ;rw[e']at hQ;exact wpAny_truthy_bool hQ
 .have e:((List.range (bs.map Value.bool).toArray.size).all λi=>bs.getD i true)=bs.all (λz=>z):=by
   rw[size_toArray,length_map];exact pP bs
  rw[e];exact⟨.bl _,H,I.kept λb o ho=>hk b o (λhm=>by rw[mem_singleton.mp hm]at ho;exact OB _ (Oj ho)) (Oh _ ho),rfl,q⟩
def  zI:Oc->Option (List Bool)
 |[]=>![]
 |d::ds=>d.asB.bind λb=>(zI ds).bind λr=>!(b::r)
noncomputable def  jp:D->N3
 |.lst ds=>!ds
 |_=>none
def bS {K} (e:jp d=!ds) (h:Is K H d v):∃p xs,v=.ref p/\SqL K H p xs/\IsL K H ds xs:=by
 cases d with
 |lst es=>cases e;exact h
 |_=>cases e
def  mO:Oc->Oe:=un1 λd=>(jp d).bind λds=>(zI ds).bind λbs=>!(.bl (bs.all (λz=>z)))
def wk {K}:∀ {ds:Oc} {bs:List Bool} {xs:List V},zI ds=!bs->IsL K H ds xs->xs=bs.map V.bl
 |[],_,_,e,l=>by cases e;exact l
 |d::ds,_,_,e,⟨x,r,z,h,l⟩=>by
  let⟨b,e1,e⟩:=OH e;let⟨bs,e2,e⟩:=OH e;cases e;cases asB_some e1;rw[z,wk e2 l,show x=.bl b from h];rfl
def rn_all:RnD X.K (λxs H Q=>∃ (p:Addr) (bs:List Bool),xs=[.ref p]/\SqL X.K H p (bs.map V.bl)/\Q (.bl (bs.all (λz=>z))) H) mO:=λO H xs ds d Q hd l e k=>by
 let⟨c,rfl,e⟩:=bh e;let⟨es,e1,e2⟩:=OH e;let⟨bs,e3,e4⟩:=OH e2;cases e4;let⟨v,rfl,h⟩:=is1 l;let⟨p,ys,rfl,q,l2⟩:=bS e1 h;rw[wk e3 l2]at q;exact⟨p,bs,rfl,msk_le.seq q,k _ H (Same.refl _) rfl⟩
noncomputable def  aZ:D->Bool
 |.non=>true
 |.bl _=>true
 |.int _=>true
 |.str _=>true
 |_=>false
noncomputable def  toV:D->V
 |.non=>.non
 |.bl b=>.bl b
 |.int i=>.int i
 |.str x=>.str x
 |_=>.non
def hZ {K} (f:aZ d=true) (h:Is K H d v):v=toV d/\gA v=true:=by
 cases d<;>first|(cases(h);exact⟨rfl,rfl⟩)|cases f
def gE {K}:∀ {ds:Oc} {xs:List V},ds.all aZ=true->IsL K H ds xs->xs=ds.map toV/\xs.all gA=true
 |[],_,_,l=>by cases(show _=[]from l);exact⟨rfl,rfl⟩
 |d::ds,_,f,⟨x,r,z,h,l⟩=>by
  rw[List.all_cons,and_eq_true]at f;let⟨e1,e2⟩:=hZ f.1 h;let⟨e3,e4⟩:=gE f.2 l;rw[z];exact⟨by rw[e1,e3];rfl,by rw[List.all_cons,e2,e4];rfl⟩
def  inL (x:D) (ds:Oc):Bool:=inV (toV x) (ds.map toV)
def  inD:D->D->Oe
 |x,.lst ds=>if aZ x&&ds.all aZ then !(.bl (inL x ds))else none
 |x,.tup ds=>if aZ x&&ds.all aZ then !(.bl (inL x ds))else none
 |_,_=>none
def r_in {K}:R2D K (rIn K false) inD:=λO H x y dx dy d Q hd ix iy e k=>by
 cases dy with
 |lst ds=>
  let⟨h1,h2⟩:=ar (e);rw[and_eq_true]at h1;subst h2;let⟨p,xs,rfl,q,l⟩:=iy;let⟨e1,e2⟩:=hZ h1.1 ix;let⟨e3,e4⟩:=gE h1.2 l;exact⟨p,xs,rfl,.inl (msk_le.seq q),e2,e4,k _ H (Same.refl _) (by rw[e1,e3];rfl)⟩
 |tup ds=>
  let⟨h1,h2⟩:=ar (e);rw[and_eq_true]at h1;subst h2;let⟨p,xs,rfl,q,l⟩:=iy;let⟨e1,e2⟩:=hZ h1.1 ix;let⟨e3,e4⟩:=gE h1.2 l;exact⟨p,xs,rfl,.inr (msk_le.seqT q),e2,e4,k _ H (Same.refl _) (by rw[e1,e3];rfl)⟩
 |_=>cases e
noncomputable def  bV:D->Option String
 |.non=>some "NoneType"
 |.bl _=>some "bool"
 |.int _=>some "int"
 |.str _=>some "str"
 |.tup _=>some "tuple"
 |.lst _=>some "list"
 |_=>none
noncomputable def  isI (T n:String):Bool:=T==n||(T=="bool"&&n=="int")
noncomputable def  wl (n:String):Bool:=["int","bool","str","list","tuple","dict"].contains n
def zJ (K:Frag) (hT:bV d=!T) (hn:wl n=true):PySem.W.kitOne K (.type T) (.type n)=!(isI T n):=by
 have hn':n="int"\/n="bool"\/n="str"\/n="list"\/n="tuple"\/n="dict":=by
  simpa [wl] using hn
 cases d<;>first
  |(cases hT;rcases hn' with rfl|rfl|rfl|rfl|rfl|rfl<;>rfl)
  |cases hT
def De {σ:St} {x} {u c} {b} (I:Inv X pins σ H s) (h:Is X.K H d x) (rx:RelV x u) (hT:bV d=!T) (e:PySem.W.kitOne X.K (.type T) c=!b) (hq:∀tk,Q (.bool b) {s with toks:=tk}):wpAny (!4) A (call (.builtin "isinstance") [u,c]) Q E s:=by
 cases d with
 |non=>cases hT;cases(h);cases(rx);exact PySem.W.kia_one PySem.W.kitx_none I.kIn True.intro e (λz=>nomatch z) hq
 |bl y=>cases hT;cases(h);cases(rx);exact PySem.W.kia_one PySem.W.kitx_bool I.kIn True.intro e (λz=>nomatch z) hq
 |int i=>cases hT;cases(h);let⟨t,q⟩:=(rx);cases q;exact PySem.W.kia_one PySem.W.kitx_int I.kIn True.intro e (λz=>nomatch z) hq
 |str i=>cases hT;cases(h);let⟨t,q⟩:=(rx);cases q;exact PySem.W.kia_one PySem.W.kitx_str I.kIn True.intro e (λz=>nomatch z) hq
 |tup ds=>
  cases hT;let⟨a,xs,rfl,q,l⟩:=h;cases(show u=Value.ref a from rx);let⟨its,_,⟨o,h1,h2,_⟩,_⟩:=I.tuple q;exact PySem.W.kia_one PySem.W.kitx_tuple I.kIn ⟨o,h1,h2⟩ e (λz=>nomatch z) hq
 |lst ds=>
  cases hT;let⟨a,xs,rfl,q,l⟩:=h;cases(show u=Value.ref a from rx);let⟨its,_,⟨o,n,h1,h2,_⟩,_⟩:=I.list q;exact PySem.W.kia_one PySem.W.kitx_list I.kIn ⟨o,h1,h2⟩ e (λz=>nomatch z) hq
 |_=>cases hT
def Dg {σ:St} {x} {b} (I:Inv X pins σ H s) (h:Is X.K H d x) (rx:RelV x u) (hT:bV d=!T) (htp:s.heap.get? tp=!⟨.type "tuple",dd,.seq its.toArray n,sl⟩) (e:PySem.W.kitAny X.K (.type T) its=!b) (hq:∀tk,Q (.bool b) {s with toks:=tk}):wpAny (!4) A (call (.builtin "isinstance") [u,.ref tp]) Q E s:=by
 cases d with
 |non=>cases hT;cases(h);cases(rx);exact PySem.W.kia_tup PySem.W.kitx_none I.kIn True.intro htp e (λz=>nomatch z) hq
 |bl y=>cases hT;cases(h);cases(rx);exact PySem.W.kia_tup PySem.W.kitx_bool I.kIn True.intro htp e (λz=>nomatch z) hq
 |int i=>cases hT;cases(h);let⟨t,q⟩:=(rx);cases q;exact PySem.W.kia_tup PySem.W.kitx_int I.kIn True.intro htp e (λz=>nomatch z) hq
 |str i=>cases hT;cases(h);let⟨t,q⟩:=(rx);cases q;exact PySem.W.kia_tup PySem.W.kitx_str I.kIn True.intro htp e (λz=>nomatch z) hq
 |tup ds=>
  cases hT;let⟨a,xs,rfl,q,l⟩:=h;cases(show u=Value.ref a from rx);let⟨its,_,⟨o,h1,h2,_⟩,_⟩:=I.tuple q;exact PySem.W.kia_tup PySem.W.kitx_tuple I.kIn ⟨o,h1,h2⟩ htp e (λz=>nomatch z) hq
 |lst ds=>
  cases hT;let⟨a,xs,rfl,q,l⟩:=h;cases(show u=Value.ref a from rx);let⟨its,_,⟨o,n,h1,h2,_⟩,_⟩:=I.list q;exact PySem.W.kia_tup PySem.W.kitx_list I.kIn ⟨o,h1,h2⟩ htp e (λz=>nomatch z) hq
 |_=>cases hT
def  tyD:D->Option String
 |.ty n=>if wl n then !n else none
 |_=>none
def sH (h:tyD d=!n):d=.ty n/\wl n=true:=by
 cases d with
 |ty m=>let⟨h1,h2⟩:=ar h;subst h2;exact⟨rfl,h1⟩
 |_=>cases h
def  zK:Oc->Option (List String)
 |[]=>![]
 |d::ds=>(tyD d).bind λn=>(zK ds).bind λr=>!(n::r)
noncomputable def  Gz:D->N3
 |.tup ds=>!ds
 |_=>none
def Dh {K} (e:Gz d=!ds) (h:Is K H d v):∃p xs,v=.ref p/\SqT K H p xs/\IsL K H ds xs:=by
 cases d with
 |tup es=>cases e;exact h
 |_=>cases e
def  mP (c:D):Option (List String):=match tyD c with
 |some n=>![n]
 |none=>(Gz c).bind zK
def  dD:Oc->Oe:=un2 λd c=>(bV d).bind λT=>(mP c).bind λns=>!(.bl (ns.any (isI T)))
def pQ {K} (hT:bV d=!T):∀ {cs:Oc} {ns:List String} {xs:List V} {us:N5},zK cs=!ns->IsL K H cs xs->Vals xs us->PySem.W.kitAny K (.type T) us=!(ns.any (isI T))
 |[],_,_,_,e,l,r=>by
  cases e;cases(show _=[]from l);cases r;rfl
 |c::cs,ns,_,_,e,⟨x,xr,z,h,l⟩,r=>by
  let⟨n,e1,e2⟩:=OH e;let⟨ms,e3,e4⟩:=OH e2;cases e4;let⟨rfl,hk⟩:=sH e1;subst z;cases r with
  |cons r1 r2=>
   cases(show x=.ty n from h);cases(show _=Value.type n from r1);show(match PySem.W.kitOne K (.type T) (.type n)with|some true=>!true|some false=>PySem.W.kitAny K (.type T) _|none=>none)=_;rw[zJ K hT hk,pQ hT e3 l r2,List.any_cons];cases isI T n<;>rfl
def call_isi:fG X (.builtin "isinstance") (λxs H Q=>∃d c T ns,IsL X.K H [d,c] xs/\bV d=!T/\mP c=!ns/\Q (.bl (ns.any (isI T))) H):=by
 intro pins s σ H xs us Q I r h;let⟨d,c,T,ns,l,hT,e,q⟩:=h;let⟨x,y,rfl,hx,hy⟩:=is2 l;let⟨u,w',rfl,r1,r2⟩:=zg r;unfold mP at e;split at e
 .rename_i n hn;cases e;let⟨rfl,hk⟩:=sH hn;cases(hy);cases(r2);refine De I hx r1 hT (zJ X.K hT hk) λtk=>⟨.bl _,H,I.tok tk,rfl,?_⟩;have e1:([n].any (isI T))=isI T n:=by simp
  rw[e1]at q;exact q
 .let⟨cs,e1,e2⟩:=OH e;let⟨tp,ys,rfl,hq,hl⟩:=Dh e1 hy;cases(r2);let⟨its,rv,⟨o,h1,h2,n,h3⟩,_⟩:=I.tuple hq;let⟨oc,od,oda,osl⟩:=o;cases(h2);cases(h3);exact Dg I hx r1 hT h1 (pQ hT e2 hl rv) λtk=>⟨.bl _,H,I.tok tk,rfl,q⟩
def rn_isi:RnD X.K (λxs H Q=>∃d c T ns,IsL X.K H [d,c] xs/\bV d=!T/\mP c=!ns/\Q (.bl (ns.any (isI T))) H) dD:=λO H xs ds d Q hd l e k=>by
 let⟨d0,c,rfl,e⟩:=jo e;let⟨T,e1,e2⟩:=OH e;let⟨ns,e3,e4⟩:=OH e2;cases e4;exact⟨d0,c,T,ns,l.full,e1,e3,k _ H (Same.refl _) rfl⟩
end
def PE.ex {ι:Type} {t:ι->TE} (h:∀z,PE X e (t z)):PE X e (λσ H Q=>∃z,t z σ H Q):=λpins s σ H Q I ⟨z,q⟩=>h z pins s σ H Q I q
def PTs.ex {ι:Type} {t:ι->TT} (h:∀z,PTs X e (t z)):PTs X e (λσ H Q=>∃z,t z σ H Q):=λpins s σ H Q I ⟨z,q⟩=>h z pins s σ H Q I q
def PG.ex {ι:Type} {t:ι->TG} (h:∀z,PG X e (t z)):PG X e (λv σ H Q=>∃z,t z v σ H Q):=λpins s σ H v u Q I r ⟨z,q⟩=>h z pins s σ H v u Q I r q
def PSs.ex {ι:Type} {t:ι->TS} (h:∀z,PSs X e (t z)):PSs X e (λD σ H=>∃z,t z D σ H):=λpins s σ H D I ⟨z,q⟩=>h z pins s σ H D I q
def  mQ (K:Frag) (Hm:Hp) (J:It) (ds:Oc):Prop:=∀ (i:Nat) (H:Hp) (O:Oa),Same Hm (msk O H)->(∀b,O b=true->H b≠none)->
 (∀d,ds[i]?=!d->J.go i H/\∀x H3,J.yld i H x H3->Same H H3/\Is K (msk O H3) d x)/\(ds.length<=i->J.stop i H)
def  tJ (K:Frag) (O:Oa) (Y:Vv) (o:N3):TI:=λσ H R=>VE K O σ H Y/\∃ds,o=!ds/\∀J H',Same H H'->mQ K (msk O H') J ds->R J H'
def  PJ (X:Cx) (tg iter:Expr) (f:dl):Prop:=∀O Y,PI X tg iter (tJ X.K O Y (f Y))
section
variable {X:Cx} {tg l e:Expr} {pos:Pos}
def  Mw (K:Frag) (tl:TE):TI:=λσ H R=>tl σ H λx H1=>∃a,x=.ref a/\(((∃xs,SqL K H1 a xs)/\R (Itl K a) H1)\/((∃xs,SqT K H1 a xs)/\R (Itt K a) H1))
def GA (hl:PE X l tl):PI X tg l (Mw X.K tl):=by
 intro pins s σ H R I h;refine thn (hl pins s σ H _ I h) λv s1 ⟨x,H1,I1,r1,q1⟩=>?_;let⟨a,e,q⟩:=q1;subst e;cases r1;have fin:∀b∈[s1.heap.objs.size],iX X pins H1 b:=λb hb=>by
  have e:b=s1.heap.objs.size:=by simpa using hb
  subst e;exact I1.fpOk (OF _) (I1.hok.fresh (OF _))
 rcases q with⟨⟨xs,hq⟩,q⟩|⟨⟨xs,hq⟩,q⟩
 .let⟨its,rv,p,hz⟩:=I1.list hq;refine wpAny_pyIter_list p.isList ?_;exact⟨s1.heap.objs.size,[s1.heap.objs.size],_,_,H1,rfl,I1.kept λb o e=>Oh _ e,xC a _,⟨_,Ol _ rfl,rfl,rfl⟩,fin,q⟩
 .let⟨its,rv,p,hz⟩:=I1.tuple hq;refine wpAny_pyIter_tuple (p) ?_;exact⟨s1.heap.objs.size,[s1.heap.objs.size],_,_,H1,rfl,I1.kept λb o e=>Oh _ e,uu a _,⟨_,Ol _ rfl,rfl,rfl⟩,fin,q⟩
def xQ {K} (q:SqL K Hm a xs) (il:IsL K Hm ds xs):mQ K Hm (Itl K a) ds:=λi H O s hd=>by
 have q':=(s.trans msk_le).seq q;refine⟨λd hi=>?_,λhi=>⟨xs,q',by rw[<-il.len];exact hi⟩⟩;let⟨x,hx,ix⟩:=il.get hi;refine⟨⟨xs,x,q',hx⟩,λy H3 ⟨e,hy⟩=>?_⟩;subst e;have:=hy xs q';rw[hx]at this;cases this;exact⟨Same.refl _,Is.mono s d x ix⟩
def zL {K} (q:SqT K Hm a xs) (il:IsL K Hm ds xs):mQ K Hm (Itt K a) ds:=λi H O s hd=>by
 have q':=(s.trans msk_le).seqT q;refine⟨λd hi=>?_,λhi=>⟨xs,q',by rw[<-il.len];exact hi⟩⟩;let⟨x,hx,ix⟩:=il.get hi;refine⟨⟨xs,x,q',hx⟩,λy H3 ⟨e,hy⟩=>?_⟩;subst e;have:=hy xs q';rw[hx]at this;cases this;exact⟨Same.refl _,Is.mono s d x ix⟩
def GB (h:PP X l f):PJ X tg l (λY=>(f Y).bind seqD):=λO Y=>(GA (h O Y)).imp λσ H R ⟨E,ds,q,k⟩=>by
 let⟨d,e1,q⟩:=OH q;refine⟨E,d,e1,λv H1 s1 i1=>?_⟩;let⟨a,xs,rfl,t,il⟩:=f7 q i1;rcases t with t|t
 .exact⟨a,rfl,.inl ⟨⟨xs,msk_le.seq t⟩,k _ H1 s1 (xQ t il)⟩⟩
 .exact⟨a,rfl,.inr ⟨⟨xs,msk_le.seqT t⟩,k _ H1 s1 (zL t il)⟩⟩
noncomputable def  jq (lo:Int) (n:Nat):Oc:=(!16).map λ(i:Nat)=>D.int (lo+(i:Int))
def mR {K} {lo}:mQ K Hm (Itr lo n) (jq lo n):=λi H O s hd=>by
 have hl:(jq lo n).length=n:=by simp[jq]
 refine⟨λd hi=>?_,λhi=>by rw[hl]at hi;exact hi⟩;have hin:i<n:=by
  have:=(On.mp hi).1;rw[hl]at this;exact this
 refine⟨hin,λx H3 ⟨e,hx⟩=>?_⟩;subst e hx;have:d=.int (lo+(i:Int)):=by
  simp[jq,hin]at hi;exact hi.symm
 subst this;exact⟨Same.refl _,rfl⟩
noncomputable def  lH:D->Of
 |.int i=>!i
 |_=>none
def intD_some (h:lH d=!i):d=.int i:=by
 cases d<;>first|(cases h;rfl)|cases h
def  inR (j:Int):Prop:=-(2^62)<=j/\j<2^62
instance (j:Int):Decidable (inR j):=Classical.propDecidable _
def  oF:Oc->N3:=un1 λd=>(lH d).bind λj=>if inR j then !(jq 0 j.toNat)else none
def  sI:Oc->N3:=un2 λc d=>(lH c).bind λi=>(lH d).bind λj=>if inR i/\inR j then !(jq i (j-i).toNat)else none
def xR (hg:Gl X "range") (hm:X.mg "range"=none) (ha:PX X [e] fa) (hs:starEach [e] X.env=[(false,eval e X.env)]:=by rfl):PJ X tg (.Call (.Name "range" p) [e] [] pos) (λY=>(fa Y).bind oF):=
 λO Y=>(xD hg hm (ha O Y) hs).imp λσ H R ⟨E,ds,q,k⟩=>by
 let⟨as,e1,q⟩:=OH q
 refine⟨E,as,e1,λvs H1 s1 il=>?_⟩
 let⟨c,rfl,q1⟩:=bh q
 let⟨j,q2,q3⟩:=OH q1
 let⟨h1,h2⟩:=ar q3
 subst h2
 let⟨v,rfl,iv⟩:=is1 il
 cases intD_some q2
 have h1':=h1
 exact⟨j,by rw[show v=.int j from iv],h1'.1,h1'.2,k _ H1 s1 mR⟩
def xS {p} (hg:Gl X "range") (hm:X.mg "range"=none) (ha:PX X [a,b] fa) (hs:starEach [a,b] X.env=[(false,eval a X.env),(false,eval b X.env)]:=by rfl) (hs2:starEach [b] X.env=[(false,eval b X.env)]:=by rfl):
  PJ X tg (.Call (.Name "range" p) [a,b] [] pos) (λY=>(fa Y).bind sI):=
 λO Y=>(xF hg hm (ha O Y) hs hs2).imp λσ H R ⟨E,ds,q,k⟩=>by
 let⟨as,e1,q⟩:=OH q
 refine⟨E,as,e1,λvs H1 s1 il=>?_⟩
 let⟨c,d,rfl,q1⟩:=jo q
 let⟨i,q2,q3⟩:=OH q1
 let⟨j,q4,q5⟩:=OH q3
 let⟨h1,h2⟩:=ar q5
 subst h2
 let⟨u,v,rfl,iu,iv⟩:=is2 il
 cases intD_some q2
 cases intD_some q4
 have h1':=h1.1
 have h2':=h1.2
 exact⟨i,j,by rw[show u=.int i from iu,show v=.int j from iv],⟨h1'.1,h1'.2,h2'.1,h2'.2⟩,k _ H1 s1 mR⟩
def  tG (K:Frag) (O:Oa) (Y:Vv) (d:D) (ks:N7) (o:Option Vv):TG:=λv σ H Q=>VE K O σ H Y/\Is K (msk O H) d v/\∃Y',o=!Y'/\
 ∀σ',VE K O σ' H Y'->σ'.length=σ.length->(∀ (j:Nat) (w:V),j ∉ ks->σ[j]?=!(!w)->σ'[j]?=!(!w))->Q σ' H
def  PGD (X:Cx) (ks:N7) (tg:Expr) (g:D->Vv->Option Vv):Prop:=∀O Y d,PG X tg (tG X.K O Y d ks (g d Y))
def  tGs (K:Frag) (O:Oa) (Y:Vv) (ds:Oc) (ks:N7) (o:Option Vv):TGs:=λvs σ H Q=>VE K O σ H Y/\IsL K (msk O H) ds vs/\∃Y',o=!Y'/\
 ∀σ',VE K O σ' H Y'->σ'.length=σ.length->(∀ (j:Nat) (w:V),j ∉ ks->σ[j]?=!(!w)->σ'[j]?=!(!w))->Q σ' H
def  xU (X:Cx) (ks:N7) (ts:Od) (g:Oc->Vv->Option Vv):Prop:=∀O Y ds,PGs X ts (tGs X.K O Y ds ks (g ds Y))
noncomputable def  gNm (i:Nat):D->Vv->Option Vv:=λd Y=>!(Y.set i (!d))
def Di (hN:X.N.Nodup) (hi:X.N[i]?=!x) (hx:Loc X.env.scope x) (hk:i∈ks) (hf:X.fn x=true\/X.env.scope.names.lookup x=some .local:=by first|exact .inl rfl|exact .inr rfl|assumption):PGD X ks (.Name x pos) (gNm i):=
 λO Y d=>(vW hN hi hx hf).imp λv σ H Q ⟨E,iv,Y',e,k⟩=>by
 cases e
 refine k _ (E.set iv) (by simp) λj w hj hw=>?_
 rw[List.getElem?_set_ne (λ(z:i=j)=>hj (by rw[<-z];exact hk))];exact hw
def PGs.imp (h:PGs X ts t) (k:∀v σ H Q,t' v σ H Q->t v σ H Q):PGs X ts t':=λpins s σ H vs us Q I r q=>h pins s σ H vs us Q I r (k _ _ _ _ q)
noncomputable def  eI:Oc->Vv->Option Vv:=λds Y=>match ds with|[]=>!Y|_=>none
noncomputable def  aI (g:D->Vv->Option Vv) (gs:Oc->Vv->Option Vv):Oc->Vv->Option Vv:=λds Y=>match ds with|d::r=>(g d Y).bind λY1=>gs r Y1|_=>none
def Dj:xU X ks [] eI:=λO Y ds=>pgs_nil.imp λvs σ H Q ⟨E,il,Y',e,k⟩=>by
 cases ds with
 |nil=>cases e;exact⟨il,k σ E rfl λ_ _ _ h=>h⟩
 |cons _ _=>cases e
def PGs.ex {e} {ι:Type} {t:ι->TGs} (h:∀z,PGs X e (t z)):PGs X e (λv σ H Q=>∃z,t z v σ H Q):=λpins s σ H v u Q I r ⟨z,q⟩=>h z pins s σ H v u Q I r q
def gsd_cons (h1:PGD X ks e g) (h2:xU X ks ts gs) (hs:(assignEach (e::ts) X.env).map (·.2)=assign e X.env::(assignEach ts X.env).map (·.2):=by rfl):xU X ks (e::ts) (aI g gs):=λO Y ds=>by
 cases ds with
 |nil=>exactλpins s σ H vs us Q I r ⟨_,_,Y',e,_⟩=>by cases e
 |cons d r=>
  refine(sr (h1 O Y d) (PGs.ex λz:Vv=>h2 O z r) hs).imp λvs σ H Q ⟨E,⟨x,xr,z,ix,il⟩,Y',e,k⟩=>?_;let⟨Y1,e1,e2⟩:=OH (e);refine⟨x,xr,z,E,ix,Y1,e1,λσ1 E1 l1 k1=>⟨Y1,E1,il,Y',e2,λσ2 E2 l2 k2=>?_⟩⟩;exact k σ2 E2 (l2.trans l1) λj w hj hw=>k2 j w hj (k1 j w hj hw)
noncomputable def  gTp (n:Nat) (gs:Oc->Vv->Option Vv):D->Vv->Option Vv:=λd Y=>match d with|.tup ds=>if ds.length=n then gs ds Y else none|_=>none
def GC {k n} (hc:X.calm=true) (h:xU X ks ts gs) (hn:(assignEach ts X.env).length=n:=by rfl) (hst:(assignEach ts X.env).findIdx? (·.1)=none:=by rfl):PGD X ks (.Tuple ts k pos) (gTp n gs):=λO Y d=>by
 refine(y6 hc (PGs.ex λz:Oc=>h O Y z) hn hst).imp λv σ H Q ⟨E,iv,Y',e,k⟩=>?_;cases d with
 |tup ds=>
  let⟨a,xs,rfl,t,il⟩:=iv;have e':(if ds.length=n then gs ds Y else none)=!Y':=e;split at e'
  .exact⟨a,xs,rfl,msk_le.seqT t,by rw[<-il.len];assumption,ds,E,il,Y',e',k⟩
  .cases e'
 |_=>cases e
end
noncomputable def  iM (step:D->Option (Oe)):Oc->N3
 |[]=>![]
 |d::ds=>(step d).bind λo=>(iM step ds).bind λr=>!(match o with|some y=>y::r|none=>r)
noncomputable def  lh (g:D->Vv->Option Vv) (ft:Fr) (fe:wp) (Y:Vv) (d:D):Option (Oe):=(g d Y).bind λY1=>(ft Y1).bind λc=>if c=true then(fe Y1).bind λy=>!(!y)else !none
def  ah (ks:N7) (fi:dl) (g:D->Vv->Option Vv) (ft:Fr) (fe:wp):dl:=λY=>(fi Y).bind λds=>bx (iM (lh g ft fe (eW ks Y)) ds)
def  PQs (X:Cx) (ifs:Od) (f:Fr):Prop:=∀O Y,PTs X ifs (tPT X.K O Y (f Y))
def PTs.imp (h:PTs X ifs t) (k:∀σ H Q,t' σ H Q->t σ H Q):PTs X ifs t':=λpins s σ H Q I q=>h pins s σ H Q I (k _ _ _ q)
def Dk:PQs X [] (λ_=>!true):=λO Y=>pts_nil.imp λσ H Q ⟨E,b,e,k⟩=>by cases e;exact k H (Same.refl _)
def Dl (h:PQ X c f):PQs X [c] f:=λO Y=>CZ (h O Y)
section
variable {X:Cx} {tg iter elt:Expr} {pos:Pos}
abbrev xG (K:Frag) (ks:N7) (g:D->Vv->Option Vv):TG:=λv σ H Q=>∃z:(Oa)×Vv×D,tG K z.1 z.2.1 z.2.2 ks (g z.2.2 z.2.1) v σ H Q
abbrev xT (K:Frag) (f:Fr):TT:=λσ H Q=>∃z:(Oa)×Vv,tPT K z.1 z.2 (f z.2) σ H Q
abbrev xE (K:Frag) (f:wp):TE:=λσ H Q=>∃z:(Oa)×Vv,tP K z.1 z.2 (f z.2) σ H Q
def zM {K} (h:tPF K O Y (ah ks fi g ft fe Y) σ H Q):
  sC (tJ K O Y (fi Y)) ks (xG K ks g) (xT K ft) (xE K fe) σ H Q:=by
 let⟨E,tot,e,k⟩:=h
 let⟨ds,e1,e⟩:=OH e
 let⟨e2,hz⟩:=cF e
 refine⟨E,ds,e1,λJ H1 s1 it=>⟨λi m ys H2=>i<=ds.length/\m=ds.length-i/\Same H1 H2/\∃rs rest,IsL K (msk O H2) rs ys/\iM _ (ds.drop i)=!rest/\tot=rs++rest,
  ⟨ds.length,Nat.zero_le _,by simp,Same.refl _,[],tot,rfl,by simpa using e2,rfl⟩,?_⟩⟩
 rintro i m ys H2 ⟨hi,rfl,s2,rs,rest,il,er,et⟩
 have E2:=E.grow (s1.trans s2)
 have hit:=it i H2 O s2.msk E2.dom
 have hlen:ys.length<sizeLine:=by
  rw[<-il.len];have:rs.length<=tot.length:=by rw[et,length_append];omega
  omega
 by_cases hlt:i<ds.length
 .refine .inr ?_;have hd:=getElem?_eq_getElem hlt;let⟨go,yl⟩:=hit.1 _ hd;refine⟨go,hlen,λx H3 hy=>?_⟩;let⟨s3,ix⟩:=yl x H3 hy;rw[List.drop_eq_getElem_cons hlt]at er;let⟨o,eo,er⟩:=OH (er);let⟨rest',er',er⟩:=OH er;let⟨Y1,g1,eo⟩:=OH eo;let⟨c,c1,eo⟩:=OH eo;refine⟨⟨O,eW ks Y,ds[i]⟩,(E2.grow s3).wiped ks,ix,Y1,g1,λσ4 E4 l4 k4=>⟨⟨l4,λj w hw=>?_⟩,⟨O,Y1⟩,E4,c,c1,λH5 s5=>?_⟩⟩
  .exact k4 j w (wipe_iff.mp hw).2 hw
  .have hm:ds.length-(i+1)<ds.length-i:=by omega
   cases c with
   |true=>
    refine Gi ?_;let⟨y,y1,eo⟩:=OH eo;cases eo;refine⟨⟨O,Y1⟩,E4.grow s5,y,y1,λv H6 s6 iv=>⟨_,hm,hlt,rfl,s2.trans (s3.trans (s5.trans s6)),rs++[y],rest',?_,er',?_⟩⟩
    .exact(IsL.mono (s3.trans (s5.trans s6)).msk _ _ il).app ⟨v,[],rfl,iv,rfl⟩
    .rw[et,<-Option.some.inj er,List.append_assoc];rfl
   |false=>
    refine Gh ?_;cases eo;refine⟨_,hm,hlt,rfl,s2.trans (s3.trans s5),rs,rest',IsL.mono (s3.trans s5).msk _ _ il,er',?_⟩;rw[et,<-Option.some.inj er]
 .have hie:i=ds.length:=by omega
  subst hie;refine .inl ⟨hit.2 (OF _),OC hlen,λp hp=>?_⟩;rw[List.drop_of_length_le (le_refl _)]at er;cases er;rw[List.append_nil]at et;subst et;exact k p ys H2 (s1.trans s2) hp il
end
mutual
noncomputable def  eqD:D->D->Bool
 |.non,.non=>true
 |.bl a,.bl b=>a==b
 |.bl a,.int b=>(if a then 1 else 0)==b
 |.int a,.bl b=>a==(if b then 1 else 0)
 |.int a,.int b=>a==b
 |.str a,.str b=>a==b
 |.tup a,.tup b=>eqL a b
 |.lst a,.lst b=>eqL a b
 |_,_=>false
noncomputable def  eqL:Oc->Oc->Bool
 |[],[]=>true
 |a::as,b::bs=>eqD a b&&eqL as bs
 |_,_=>false
end
mutual
noncomputable def  dep:D->Nat
 |.tup ds=>aQ ds+1
 |.lst ds=>aQ ds+1
 |_=>0
noncomputable def  aQ:Oc->Nat
 |[]=>0
 |d::ds=>max (dep d) (aQ ds)
end
mutual
noncomputable def  okE:D->Bool
 |.non=>true
 |.bl _=>true
 |.int _=>true
 |.str _=>true
 |.ty _=>false
 |.adr _=>false
 |.tup ds=>okL ds
 |.lst ds=>okL ds
 |.obj _ _ _=>false
 |.dct _ _=>false
noncomputable def  okL:Oc->Bool
 |[]=>true
 |d::ds=>okE d&&okL ds
end
mutual
theorem sJ:∀d:D,okE d=true->eqD d d=true
 |.non,_=>rfl
 |.bl a,_=>by show(a==a)=true;simp
 |.int a,_=>by show(a==a)=true;simp
 |.str a,_=>by show(a==a)=true;simp
 |.ty _,h=>by cases h
 |.adr _,h=>by cases h
 |.tup ds,h=>gG ds h
 |.lst ds,h=>gG ds h
 |.obj _ _ _,h=>by cases h
 |.dct _ _,h=>by cases h
theorem gG:∀ds:Oc,okL ds=true->eqL ds ds=true
 |[],_=>rfl
 |d::ds,h=>by
  have h':(okE d&&okL ds)=true:=h;rw[and_eq_true]at h';show(eqD d d&&eqL ds ds)=true;rw[sJ d h'.1,gG ds h'.2];rfl
end
section
variable {X:Cx} {pins:N1} {σ:St} {H:Hp} {s:Shared}
def Inv.notBoth (I:Inv X pins σ H s) (h:SqT X.K H a xs) (h':SqL X.K H a ys):False:=by
 let⟨_,_,⟨o,e,c,_⟩,_⟩:=I.tuple h;let⟨_,_,⟨o',n,e',c',_⟩,_⟩:=I.list h';grind
mutual
theorem Is.inj (I:Inv X pins σ H s):∀ (d e:D) (v:V),okE d=true->okE e=true->Is X.K H d v->Is X.K H e v->d=e
 |d,e,v,hd,he,h,h'=>by
  cases d with
  |non=>cases(show v=_ from h);cases e<;>first|exact(Om he).elim|rfl|(exact absurd (show V.non=_ from h') (by intro z;cases z))|(let⟨_,_,z,_⟩:=h';cases z)|cases he
  |bl b=>cases(show v=_ from h);cases e<;>first|exact(Om he).elim|(cases(show V.bl b=_ from h');rfl)|(exact absurd (show V.bl b=_ from h') (by intro z;cases z))|(let⟨_,_,z,_⟩:=h';cases z)|cases he
  |int b=>cases(show v=_ from h);cases e<;>first|exact(Om he).elim|(cases(show V.int b=_ from h');rfl)|(exact absurd (show V.int b=_ from h') (by intro z;cases z))|(let⟨_,_,z,_⟩:=h';cases z)|cases he
  |str b=>cases(show v=_ from h);cases e<;>first|exact(Om he).elim|(cases(show V.str b=_ from h');rfl)|(exact absurd (show V.str b=_ from h') (by intro z;cases z))|(let⟨_,_,z,_⟩:=h';cases z)|cases he
  |ty _=>cases hd
  |adr _=>cases hd
  |obj _ _ _=>cases hd
  |dct _ _=>cases hd
  |tup ds=>
   let⟨a,xs,rfl,q,l⟩:=h;cases e with
   |tup es=>
    let⟨a',ys,z,q',l'⟩:=h';cases z;cases I.tuple_inj q q';rw[IsL.inj I ds es xs hd he l l']
   |lst es=>
    let⟨a',ys,z,q',l'⟩:=h';cases z;exact(I.notBoth q q').elim
   |non=>exact absurd (show V.ref a=_ from h') (by intro z;cases z)
   |bl _=>exact absurd (show V.ref a=_ from h') (by intro z;cases z)
   |int _=>exact absurd (show V.ref a=_ from h') (by intro z;cases z)
   |str _=>exact absurd (show V.ref a=_ from h') (by intro z;cases z)
   |ty _=>cases he
   |adr _=>cases he
   |obj _ _ _=>cases he
   |dct _ _=>cases he
  |lst ds=>
   let⟨a,xs,rfl,q,l⟩:=h;cases e with
   |lst es=>
    let⟨a',ys,z,q',l'⟩:=h';cases z;cases I.list_inj q q';rw[IsL.inj I ds es xs hd he l l']
   |tup es=>
    let⟨a',ys,z,q',l'⟩:=h';cases z;exact(I.notBoth q' q).elim
   |non=>exact absurd (show V.ref a=_ from h') (by intro z;cases z)
   |bl _=>exact absurd (show V.ref a=_ from h') (by intro z;cases z)
   |int _=>exact absurd (show V.ref a=_ from h') (by intro z;cases z)
   |str _=>exact absurd (show V.ref a=_ from h') (by intro z;cases z)
   |ty _=>cases he
   |adr _=>cases he
   |obj _ _ _=>cases he
   |dct _ _=>cases he
theorem IsL.inj (I:Inv X pins σ H s):∀ (ds es:Oc) (vs:List V),okL ds=true->okL es=true->IsL X.K H ds vs->IsL X.K H es vs->ds=es
 |[],[],_,_,_,_,_=>rfl
 |[],e::es,vs,_,_,h,⟨x,r,z,_⟩=>by cases(show vs=[]from h);cases z
 |d::ds,[],vs,_,_,⟨x,r,z,_⟩,h=>by cases(show vs=[]from h);cases z
 |d::ds,e::es,vs,hd,he,⟨x,r,z,h1,h2⟩,⟨x',r',z',h1',h2'⟩=>by
  cases z;cases z';have hd':(okE d&&okL ds)=true:=hd;have he':(okE e&&okL es)=true:=he;rw[and_eq_true]at hd' he';rw[Is.inj I d e x hd'.1 he'.1 h1 h1',IsL.inj I ds es r hd'.2 he'.2 h2 h2']
end
def bi:∀ (ds es:Oc),(((List.range (min ds.length es.length)).all λj=>eqD (ds.getD j .non) (es.getD j .non))&&ds.length==es.length)=eqL ds es
 |[],[]=>rfl
 |[],e::es=>by simp[eqL]
 |d::ds,[]=>by simp[eqL]
 |d::ds,e::es=>by
  have ih:=bi ds es;show(((List.range (min (ds.length+1) (es.length+1))).all _)&&_)=(eqD d e&&eqL ds es);rw[<-ih,show min (ds.length+1) (es.length+1)=min ds.length es.length+1 by omega,List.range_succ_eq_map,List.all_cons,List.all_map];have e1:((d::ds).length==(e::es).length)=(ds.length==es.length):=by simp
  rw[e1,Bool.and_assoc];rfl
end
section
variable {X:Cx} {pins:N1} {σ:St} {H:Hp} {s:Shared}
def ic (A:Around):A.in1.units=A.units+1:=rfl
def jr:∀ {ds:Oc} {i:Nat} {d:D},ds[i]?=!d->dep d<=aQ ds
 |[],_,_,h=>by simp at h
 |c::ds,0,d,h=>by
  simp at h;subst h;show dep c<=max (dep c) (aQ ds);omega
 |c::ds,i+1,d,h=>by
  have:=jr (ds:=ds) (i:=i) (by simpa using h);show dep d<=max (dep c) (aQ ds);omega
def eX:∀ {ds:Oc} {i:Nat} {d:D},okL ds=true->ds[i]?=!d->okE d=true
 |[],_,_,_,h=>by simp at h
 |c::ds,0,d,ho,h=>by
  simp at h;subst h;have ho':(okE c&&okL ds)=true:=ho;rw[and_eq_true]at ho';exact ho'.1
 |c::ds,i+1,d,ho,h=>by
  have ho':(okE c&&okL ds)=true:=ho;rw[and_eq_true]at ho';exact eX (ds:=ds) (i:=i) ho'.2 (by simpa using h)
def getD_some {ds:Oc} (h:ds[i]?=!d):ds.getD i .non=d:=by rw[List.getD_eq_getElem?_getD,h];rfl
def fI (go:∀ (i:Nat) (d e:D) (x y:V) (u w:Value),ds[i]?=!d->es[i]?=!e->Is X.K H d x->Is X.K H e y->RelV x u->RelV y w->SeqAt.EqAt A s u w (eqD d e)) (il:IsL X.K H ds xs) (jl:IsL X.K H es ys) (r:Vals xs us) (q:Vals ys ws) (j:Nat) (h1:j<us.toArray.size) (h2:j<ws.toArray.size):SeqAt.EqAt A s us.toArray[j] ws.toArray[j] (eqD (ds.getD j .non) (es.getD j .non)):=by
 have hx:us[j]?=some us.toArray[j]:=by simp at h1⊢
 have hy:ws[j]?=some ws.toArray[j]:=by simp at h2⊢
 let⟨x,e1,r1⟩:=paired_get' r hx;let⟨y,e2,r2⟩:=paired_get' q hy;let⟨d,e3,i3⟩:=il.get' e1;let⟨e,e4,i4⟩:=jl.get' e2;rw[getD_some e3,getD_some e4];exact go j d e x y _ _ e3 e4 i3 i4 r1 r2
def j4 (h:Is X.K H d x) (f:aZ d=true):gA x=true/\x=toV d:=let⟨a,b⟩:=hZ f h;⟨b,a⟩
def Dm (f:aZ d=true) (g:aZ e=true):eqV (toV d) (toV e)=eqD d e:=by
 cases d<;>cases e<;>first|exact(Om f).elim|exact(Om g).elim|rfl
def j5 (ds es:Oc) (h:ds.length=es.length):((List.range ds.length).all λj=>eqD (ds.getD j .non) (es.getD j .non))=eqL ds es:=by
 have:=bi ds es;rw[<-this,h];simp
def qG (h:ds.length≠es.length):eqL ds es=false:=by
 rw[<-bi];grind
def uL (I:Inv X pins σ H s):∀ (n:Nat) (A:Around) (d e:D) (x y:V) (u w:Value),dep d<=n->A.units+n<cLine->okE d=true->okE e=true->Is X.K H d x->Is X.K H e y->RelV x u->RelV y w->SeqAt.EqAt A s u w (eqD d e):=by
 intro n;induction n with
 |zero=>
  intro A d e x y u w hn hu od oe hx hy rx ry;have fd:aZ d=true:=by
   cases d with
   |tup ds=>exact absurd (show aQ ds+1<=0 from hn) (!1)
   |lst ds=>exact absurd (show aQ ds+1<=0 from hn) (!1)
   |ty _=>cases od
   |adr _=>cases od
   |obj _ _ _=>cases od
   |dct _ _=>cases od
   |_=>rfl
  have hu':A.units<cLine:=by omega
  cases fe:aZ e with
  |true=>
   let⟨f1,e1⟩:=j4 hx fd;let⟨f2,e2⟩:=j4 hy fe;rw[<-Dm fd fe,<-e1,<-e2];exact zw rx ry f1 f2
  |false=>
   cases e with
   |tup es=>
    let⟨b,ys,rfl,q,l⟩:=hy;cases ry;let⟨its,rv,p,_⟩:=I.tuple q;cases d with
    |non=>cases(hx);cases rx;exact SeqAt.EqAt.none_tuple p hu'
    |bl c=>cases(hx);cases rx;exact SeqAt.EqAt.bool_tuple c p hu'
    |int c=>cases(hx);let⟨t,rfl⟩:=rx;exact SeqAt.EqAt.int_tuple c t p hu'
    |str c=>cases(hx);let⟨t,rfl⟩:=rx;exact SeqAt.EqAt.str_tuple c t p hu'
    |_=>cases fd
   |lst es=>
    let⟨b,ys,rfl,q,l⟩:=hy;cases ry;let⟨its,rv,p,_⟩:=I.list q;cases d with
    |non=>cases(hx);cases rx;exact SeqAt.EqAt.none_list p.isList hu'
    |bl c=>cases(hx);cases rx;exact SeqAt.EqAt.bool_list c p.isList hu'
    |int c=>cases(hx);let⟨t,rfl⟩:=rx;exact SeqAt.EqAt.int_list c t p.isList hu'
    |str c=>cases(hx);let⟨t,rfl⟩:=rx;exact SeqAt.EqAt.str_list c t p.isList hu'
    |_=>cases fd
   |ty _=>cases oe
   |adr _=>cases oe
   |obj _ _ _=>cases oe
   |dct _ _=>cases oe
   |_=>cases fe
 |succ n ih=>
  intro A d e x y u w hn hu od oe hx hy rx ry;have hu':A.units<cLine:=by omega
  cases fd:aZ d with
  |true=>
   have h0:dep d<=n:=by
    cases d<;>first|exact Nat.zero_le _|cases fd
   exact ih A d e x y u w h0 (!1) od oe hx hy rx ry
  |false=>
   cases d with
   |tup ds=>
    have hdn:=Nat.le_of_succ_le_succ (hn);let⟨a,xs,rfl,q,l⟩:=hx;cases rx;let⟨its,rv,p,_⟩:=I.tuple q;cases e with
    |tup es=>
     let⟨b,ys,rfl,q',l'⟩:=hy;cases ry;let⟨its',rv',p',_⟩:=I.tuple q';by_cases hab:a=b
     .subst hab;cases I.tuple_inj q q';cases IsL.inj I ds es xs od oe l l';rw[show eqD (.tup ds) (.tup ds)=true from gG ds od];exact SeqAt.EqAt.same _
     .refine SeqAt.EqAt.of_refs hab ?_;have h:=SeqAt.RcAt.tuples p p' hu' λj h1 h2=>fI (λi d e x y u w e1 e2 i1 i2 r1 r2=>ih A.in1 d e x y u w (Ov (jr e1) hdn) (by rw[ic];omega) (eX od e1) (eX oe e2) i1 i2 r1 r2) l l' rv rv' j h1 h2;have e1:its.toArray.size=ds.length:=by rw[size_toArray,<-rv.length,l.len]
      have e2:its'.toArray.size=es.length:=by rw[size_toArray,<-rv'.length,l'.len]
      rw[e1,e2,bi]at h;exact h
    |lst es=>
     let⟨b,ys,rfl,q',l'⟩:=hy;cases ry;let⟨its',rv',p',_⟩:=I.list q';exact SeqAt.EqAt.tuple_list p p'.isList hu'
    |non=>cases(hy);cases ry;exact SeqAt.EqAt.tuple_none p hu'
    |bl c=>cases(hy);cases ry;exact SeqAt.EqAt.tuple_bool c p hu'
    |int c=>cases(hy);let⟨t,rfl⟩:=ry;exact SeqAt.EqAt.tuple_int c t p hu'
    |str c=>cases(hy);let⟨t,rfl⟩:=ry;exact SeqAt.EqAt.tuple_str c t p hu'
    |ty _=>cases oe
    |adr _=>cases oe
    |obj _ _ _=>cases oe
    |dct _ _=>cases oe
   |lst ds=>
    have hdn:=Nat.le_of_succ_le_succ (hn);let⟨a,xs,rfl,q,l⟩:=hx;cases rx;let⟨its,rv,p,_⟩:=I.list q;cases e with
    |lst es=>
     let⟨b,ys,rfl,q',l'⟩:=hy;cases ry;let⟨its',rv',p',_⟩:=I.list q';have e1:its.toArray.size=ds.length:=by rw[size_toArray,<-rv.length,l.len]
     have e2:its'.toArray.size=es.length:=by rw[size_toArray,<-rv'.length,l'.len]
     by_cases hab:a=b
     .subst hab;cases I.list_inj q q';cases IsL.inj I ds es xs od oe l l';rw[show eqD (.lst ds) (.lst ds)=true from gG ds od];exact SeqAt.EqAt.same _
     .refine SeqAt.EqAt.of_refs hab ?_;by_cases hl:ds.length=es.length
      .have h:=SeqAt.RcAt.lists p.isList p'.isList (by rw[e1,e2,hl]) hu' λj h1 h2=>fI (λi d e x y u w e1 e2 i1 i2 r1 r2=>ih A.in1 d e x y u w (Ov (jr e1) hdn) (by rw[ic];omega) (eX od e1) (eX oe e2) i1 i2 r1 r2) l l' rv rv' j h1 h2;rw[e1,j5 ds es hl]at h;exact h
      .rw[show eqD (.lst ds) (.lst es)=false from qG hl];exact SeqAt.RcAt.lists_lengths p.isList p'.isList (by rw[e1,e2];simpa using hl) hu'
    |tup es=>
     let⟨b,ys,rfl,q',l'⟩:=hy;cases ry;let⟨its',rv',p',_⟩:=I.tuple q';exact SeqAt.EqAt.list_tuple p.isList p' hu'
    |non=>cases(hy);cases ry;exact SeqAt.EqAt.list_none p.isList hu'
    |bl c=>cases(hy);cases ry;exact SeqAt.EqAt.list_bool c p.isList hu'
    |int c=>cases(hy);let⟨t,rfl⟩:=ry;exact SeqAt.EqAt.list_int c t p.isList hu'
    |str c=>cases(hy);let⟨t,rfl⟩:=ry;exact SeqAt.EqAt.list_str c t p.isList hu'
    |ty _=>cases oe
    |adr _=>cases oe
    |obj _ _ _=>cases oe
    |dct _ _=>cases oe
   |ty _=>cases od
   |adr _=>cases od
   |obj _ _ _=>cases od
   |dct _ _=>cases od
   |_=>cases fd
noncomputable def  GD:D->D->Bool
 |.tup _,.tup _=>true
 |.lst _,.lst _=>true
 |.tup _,.str _=>true
 |_,_=>false
def  jt (d e:D):Option Bool:=if(aZ d&&aZ e&&zc (toV d) (toV e))=true then !(decide (toV d=toV e))else if(GD d e&&okE d&&okE e&&decide (dep d<=50))=true then !(eqD d e)else none
def  GE (K:Frag) (neg:Bool):R2:=λx y H Q=>∃d e b,Is K H d x/\Is K H e y/\jt d e=!b/\Q (.bl (if neg then not b else b)) H
def cmpEq_cases (h:jt d e=!b):(aZ d=true/\aZ e=true/\zc (toV d) (toV e)=true/\b=decide (toV d=toV e))\/(GD d e=true/\okE d=true/\okE e=true/\dep d<=50/\b=eqD d e):=by
 unfold jt at h;split at h
 .rename_i c;rw[and_eq_true,and_eq_true]at c;exact .inl ⟨c.1.1,c.1.2,c.2,(Option.some.inj h).symm⟩
 .split at h
  .rename_i _ c;rw[and_eq_true,and_eq_true,and_eq_true]at c;exact .inr ⟨c.1.1.1,c.1.1.2,c.1.2,Oq c.2,(Option.some.inj h).symm⟩
  .cases h
def ie (I:Inv X pins σ H s) (hu:X.A.units+60<cLine) (od:okL ds=true) (oe:okL es=true) (hd:aQ ds<=50):∀ (i:Nat) (d e:D) (x y:V) (u w:Value),ds[i]?=!d->es[i]?=!e->Is X.K H d x->Is X.K H e y->RelV x u->RelV y w->SeqAt.EqAt X.A.in1 s u w (eqD d e):=
 λi d e x y u w e1 e2 i1 i2 r1 r2=>uL I 50 X.A.in1 d e x y u w (Ov (jr e1) hd) (by rw[ic];omega) (eX od e1) (eX oe e2) i1 i2 r1 r2
def zN (hu:X.A.units+60<cLine):OpR X (compareOp .Eq) (GE X.K false):=by
 intro pins s σ H x y v u Q I rx ry h;let⟨d,e,b,hx,hy,hb,q⟩:=h;have hu':X.A.units<cLine:=by omega
 rcases cmpEq_cases hb with⟨f1,f2,sc,rfl⟩|⟨sq,od,oe,hd,rfl⟩
 .let⟨_,e1⟩:=j4 hx f1;let⟨_,e2⟩:=j4 hy f2;exact Jp pins s σ H x y v u Q I rx ry ⟨by rw[e1,e2];exact sc,by rw[e1,e2];exact q⟩
 .cases d with
  |tup ds=>
   cases e with
   |tup es=>
    let⟨a,xs,rfl,q1,l⟩:=hx;let⟨c,ys,rfl,q2,l'⟩:=hy;cases rx;cases ry;let⟨its,rv,p,_⟩:=I.tuple q1;let⟨its',rv',p',_⟩:=I.tuple q2;have hd':aQ ds<=50:=by have:aQ ds+1<=50:=hd;omega
    have e1:its.toArray.size=ds.length:=by rw[size_toArray,<-rv.length,l.len]
    have e2:its'.toArray.size=es.length:=by rw[size_toArray,<-rv'.length,l'.len]
    have hh:=SeqAt.RcAt.tuples p p' hu' λj h1 h2=>fI (ie I hu od oe hd') l l' rv rv' j h1 h2;rw[e1,e2,bi]at hh;exact hh X.prog X.w X.xe _ ⟨.bl _,H,I,rfl,q⟩
   |str b=>
    let⟨a,xs,rfl,q1,l⟩:=hx;cases(hy);cases rx;let⟨tk,rfl⟩:=ry;let⟨its,rv,p,_⟩:=I.tuple q1;have hh:=SeqAt.RcAt.tuple_str b tk p hu';exact hh X.prog X.w X.xe _ ⟨.bl _,H,I,rfl,q⟩
   |_=>cases sq
  |lst ds=>
   cases e with
   |lst es=>
    let⟨a,xs,rfl,q1,l⟩:=hx;let⟨c,ys,rfl,q2,l'⟩:=hy;cases rx;cases ry;let⟨its,rv,p,_⟩:=I.list q1;let⟨its',rv',p',_⟩:=I.list q2;have hd':aQ ds<=50:=by have:aQ ds+1<=50:=hd;omega
    have e1:its.toArray.size=ds.length:=by rw[size_toArray,<-rv.length,l.len]
    have e2:its'.toArray.size=es.length:=by rw[size_toArray,<-rv'.length,l'.len]
    by_cases hl:ds.length=es.length
    .have hh:=SeqAt.RcAt.lists p.isList p'.isList (by rw[e1,e2,hl]) hu' λj h1 h2=>fI (ie I hu od oe hd') l l' rv rv' j h1 h2;rw[e1,j5 ds es hl]at hh;exact hh X.prog X.w X.xe _ ⟨.bl _,H,I,rfl,q⟩
    .have hh:SeqAt.RcAt X.A s (.ref a) (.ref c) false:=SeqAt.RcAt.lists_lengths p.isList p'.isList (by rw[e1,e2];simpa using hl) hu';rw[show eqD (.lst ds) (.lst es)=false from qG hl]at q;exact hh X.prog X.w X.xe _ ⟨.bl _,H,I,rfl,q⟩
   |_=>cases sq
  |_=>cases sq
def zO (hu:X.A.units+60<cLine):OpR X (compareOp .NotEq) (GE X.K true):=by
 intro pins s σ H x y v u Q I rx ry h;let⟨d,e,b,hx,hy,hb,q⟩:=h;have hu':X.A.units<cLine:=by omega
 rcases cmpEq_cases hb with⟨f1,f2,sc,rfl⟩|⟨sq,od,oe,hd,rfl⟩
 .let⟨_,e1⟩:=j4 hx f1;let⟨_,e2⟩:=j4 hy f2;exact Jq pins s σ H x y v u Q I rx ry ⟨by rw[e1,e2];exact sc,by rw[e1,e2];exact q⟩
 .cases d with
  |tup ds=>
   cases e with
   |tup es=>
    let⟨a,xs,rfl,q1,l⟩:=hx;let⟨c,ys,rfl,q2,l'⟩:=hy;cases rx;cases ry;let⟨its,rv,p,_⟩:=I.tuple q1;let⟨its',rv',p',_⟩:=I.tuple q2;have hd':aQ ds<=50:=by have:aQ ds+1<=50:=hd;omega
    have e1:its.toArray.size=ds.length:=by rw[size_toArray,<-rv.length,l.len]
    have e2:its'.toArray.size=es.length:=by rw[size_toArray,<-rv'.length,l'.len]
    have hh:=SeqAt.RcNeAt.tuples p p' hu' λj h1 h2=>fI (ie I hu od oe hd') l l' rv rv' j h1 h2;rw[e1,e2,bi]at hh;exact hh X.prog X.w X.xe _ ⟨.bl _,H,I,rfl,q⟩
   |str b=>
    let⟨a,xs,rfl,q1,l⟩:=hx;cases(hy);cases rx;let⟨tk,rfl⟩:=ry;let⟨its,rv,p,_⟩:=I.tuple q1;have hh:=SeqAt.RcNeAt.tuple_str b tk p hu';exact hh X.prog X.w X.xe _ ⟨.bl _,H,I,rfl,q⟩
   |_=>cases sq
  |lst ds=>
   cases e with
   |lst es=>
    let⟨a,xs,rfl,q1,l⟩:=hx;let⟨c,ys,rfl,q2,l'⟩:=hy;cases rx;cases ry;let⟨its,rv,p,_⟩:=I.list q1;let⟨its',rv',p',_⟩:=I.list q2;have hd':aQ ds<=50:=by have:aQ ds+1<=50:=hd;omega
    have e1:its.toArray.size=ds.length:=by rw[size_toArray,<-rv.length,l.len]
    have e2:its'.toArray.size=es.length:=by rw[size_toArray,<-rv'.length,l'.len]
    by_cases hl:ds.length=es.length
    .have hh:=SeqAt.RcNeAt.lists p.isList p'.isList (by rw[e1,e2,hl]) hu' λj h1 h2=>fI (ie I hu od oe hd') l l' rv rv' j h1 h2;rw[e1,j5 ds es hl]at hh;exact hh X.prog X.w X.xe _ ⟨.bl _,H,I,rfl,q⟩
    .have hh:SeqAt.RcNeAt X.A s (.ref a) (.ref c) true:=SeqAt.RcNeAt.lists_lengths p.isList p'.isList (by rw[e1,e2];simpa using hl) hu';rw[show eqD (.lst ds) (.lst es)=false from qG hl]at q;exact hh X.prog X.w X.xe _ ⟨.bl _,H,I,rfl,q⟩
   |_=>cases sq
  |_=>cases sq
end
def  aD (neg:Bool) (d e:D):Oe:=(jt d e).bind λb=>!(.bl (if neg then not b else b))
def wm {K}:R2D K (GE K neg) (aD neg):=λO H x y dx dy d Q hd ix iy e k=>by
 let⟨b,e1,e2⟩:=OH e;cases e2;exact⟨dx,dy,b,ix.full,iy.full,e1,k _ H (Same.refl _) rfl⟩
section
variable {X:Cx} {pos:Pos} {a b e:Expr}
def room60 (r:Room k A):A.units+60<cLine:=by have:=r.un;omega
def JY (r:Room k X.A) (ha:PP X a fa) (hb:PP X b fb):PP X (.Compare a [.Eq] [b] pos) (aa (aD false) fa fb):=pp_cmp (zN (room60 r)) wm ha hb (eT _)
def JZ (r:Room k X.A) (ha:PP X a fa) (hb:PP X b fb):PP X (.Compare a [.NotEq] [b] pos) (aa (aD true) fa fb):=pp_cmp (zO (room60 r)) wm ha hb (eT _)
def J0 (r:Room k X.A) (ha:PP X a fa) (hb:PP X b fb):PQ X (.Compare a [.Eq] [b] pos) (ag (aa (aD false) fa fb)):=pq_cmp (zN (room60 r)) wm ha hb (eT _)
def J2 (r:Room k X.A) (ha:PP X a fa) (hb:PP X b fb):PQ X (.Compare a [.NotEq] [b] pos) (ag (aa (aD true) fa fb)):=pq_cmp (zO (room60 r)) wm ha hb (eT _)
structure Cn (K:Frag) (mg:Str->N6) (x:Str) (d:D):Prop where
 ex:∃v u,mg x=!u/\RelV v u/\∀H,Is K H d v
def zP (c:Cn X.K X.mg x d) (hg:Gl X x) (hd:(!7)=false:=by decide):PP X (.Name x pos) (λ_=>!d):=by
 let⟨v,u,h1,h2,h3⟩:=c.ex;exact C5 hg h1 h2 h3 hd
end
def  ItK:Bool->Heap->Addr->Addr->Nat->Prop
 |true,h,it,l,k=>h.IsListIter it l k
 |false,h,it,l,k=>h.IsTupleIter it l k
def  CoK:Bool->Heap->Addr->Ob->Prop
 |true,h,l,its=>h.IsList l its
 |false,h,l,its=>h.IsTuple l its
def ItK.at (x:ItK b h it l k) (e:∀o,h.get? it=!o->h'.get? it=!o):ItK b h' it l k:=by
 cases b
 .exact Heap.IsTupleIter.at x e
 .exact Heap.IsListIter.at x e
def CoK.at (x:CoK b h l its) (e:∀o,h.get? l=!o->h'.get? l=!o):CoK b h' l its:=by
 cases b
 .let⟨o,a,r⟩:=x;exact⟨o,e o a,r⟩
 .exact Heap.IsList.at x e
def ItK.live (x:ItK b h it l k):∃o n vs,h.get? it=!o/\o.cls=.type n/\o.data=.fields vs/\(n="list_iterator"\/n="tuple_iterator"):=by
 cases b
 .let⟨o,e,c,d⟩:=x;exact⟨o,_,_,e,c,d,.inr rfl⟩
 .let⟨o,e,c,d⟩:=x;exact⟨o,_,_,e,c,d,.inl rfl⟩
section
variable {prog:Program} {w:World} {A:Around} {E:N4} {s:Shared}
def zQ (hit:s.heap.IsTupleIter it t i) (ht:s.heap.IsTuple t its) (hx:its[i]?=!x) (hQ:∀h',h'.IsTupleIter it t (i+1)->Heap.SameBut it s.heap h'->Q x {s with heap:=h'}):wpAny (!6) A (Builtin.SmallTypes.nextOf (.ref it)) Q E s:=by
 let⟨o,ho,hc,hd⟩:=id hit;let⟨ol,hol,_,nl,hdl⟩:=ht;have go:wpAny (!6) A.in1 (Builtin.«tuple_iterator.__next__» ⟨[.ref it],[]⟩) (λfin s'=>∃v,fin=.done (.ret v)/\wpAny (!6) A (pure v) Q E s') E s:=by
  show wpAny _ _ (field (.ref it) 0>>=_) _ _ s;refine Og (wpAny_field ho hd rfl ?_);refine Og (wpAny_field ho hd rfl ?_);refine Og (wpAny_seqItems hol hdl ?_);simp only[Int.toNat_natCast,hx];refine Og (wpAny_setField ho hd (by simp) (Oi ⟨x,rfl,Oi (hQ _ ⟨_,Heap.get?_update_self _ ho (Obj.isFreed_of_fields (Obj.data_mapFields hd _)),(Obj.cls_mapFields ..).trans hc,?_⟩ (Heap.SameBut.update ..))⟩));rw[Obj.data_mapFields hd];simp[rawInt]
 exact Og (wpAny_callSpecial?_slot hit.typeIs F.slot_tuple_iterator_next (wpAny_call_entry F.slot_tuple_iterator_next hit.typeIs F.entry_tuple_iterator_next go (F.args_tuple_iterator_next_1 _)))
def qH (hh:A.handled=none) (hit:s.heap.IsTupleIter it t i) (ht:s.heap.IsTuple t its) (hx:its[i]?=none) (hE:∀h' e,Heap.ExtBut it s.heap h'->(∃o,h'.get? e=!o/\o.cls=.type "StopIteration")->E (.ref e) {s with heap:=h'}):wpAny (!6) A (Builtin.SmallTypes.nextOf (.ref it)) Q E s:=by
 let⟨o,ho,hc,hd⟩:=id hit;let⟨ol,hol,_,nl,hdl⟩:=ht;refine Og (wpAny_callSpecial?_slot hit.typeIs F.slot_tuple_iterator_next (wpAny_call_entry F.slot_tuple_iterator_next hit.typeIs F.entry_tuple_iterator_next ?_ (F.args_tuple_iterator_next_1 _)));show wpAny _ _ (field (.ref it) 0>>=_) _ _ s;refine Og (wpAny_field ho hd rfl ?_);refine Og (wpAny_field ho hd rfl ?_);refine Og (wpAny_seqItems hol hdl ?_);simp only[Int.toNat_natCast,hx];refine Og (wpAny_rule (Og (wpAny_setField ho hd (by simp) ?_)));refine Og ?_;refine Og (wpAny_newObj_type ?_ (by size_fits));refine Og (Oy (by first|rfl|(simp only[firstArgMember];rfl)) ?_);refine wpAny_newObj_type ?_ (by size_fits);refine Og (wpAny_handled ?_);first|rw[show A.in1.handled=none from hh]|rw[hh]
 refine Og (Oi (wpAny_throw ?_));exact hE _ _ (((Heap.SameBut.update ..).extBut.push _).push _) ⟨_,Ol _ rfl,rfl⟩
def wn (hit:ItK b s.heap it l i) (ht:CoK b s.heap l its) (hx:its[i]?=!x) (hQ:∀h',ItK b h' it l (i+1)->Heap.SameBut it s.heap h'->Q x {s with heap:=h'}):wpAny (!6) A (Builtin.SmallTypes.nextOf (.ref it)) Q E s:=by
 cases b
 .exact zQ hit ht hx hQ
 .exact wpAny_nextOf_list_item hit ht hx hQ
def j6 (hh:A.handled=none) (hit:ItK b s.heap it l i) (ht:CoK b s.heap l its) (hx:its[i]?=none) (hE:∀h' e,Heap.ExtBut it s.heap h'->(∃o,h'.get? e=!o/\o.cls=.type "StopIteration")->E (.ref e) {s with heap:=h'}):wpAny (!6) A (Builtin.SmallTypes.nextOf (.ref it)) Q E s:=by
 cases b
 .exact qH hh hit ht hx hE
 .exact wpAny_nextOf_list_end hh hit ht hx hE
structure ZA (z TI TO i1 i2:Addr):Prop where
 TIz:TI≠z
 TOz:TO≠z
 i1z:i1≠z
 i2z:i2≠z
 TITO:TI≠TO
 TIi1:TI≠i1
 TIi2:TI≠i2
 TOi1:TO≠i1
 TOi2:TO≠i2
 i12:i1≠i2
structure ZL (z TO i1 i2 l:Addr):Prop where
 z:l≠z
 TO:l≠TO
 i1:l≠i1
 i2:l≠i2
structure ZSt (b c:Bool) (z TI TO i1 i2 l1 l2:Addr) (f0:Value) (k:Nat) (h:Heap):Prop where
 ap:ZA z TI TO i1 i2
 hz:IsZip h z TI TO f0
 hI:IsPair h TI (.ref i1) (.ref i2)
 hO:∃a d,IsPair h TO a d
 h1:ItK b h i1 l1 k
 h2:ItK c h i2 l2 k
def ItK.ext (x:ItK b h it l k) (e:Heap.SameBut c h h') (hc:it≠c):ItK b h' it l k:=x.at λo q=>e.extBut _ _ hc q
def CoK.ext (x:CoK b h l its) (e:Heap.SameBut c h h') (hc:l≠c):CoK b h' l its:=x.at λo q=>e.extBut _ _ hc q
def zR {z TI TO i1 i2 l1 l2} (Z:ZSt b c z TI TO i1 i2 l1 l2 .none k s.heap) (L1:ZL z TO i1 i2 l1) (L2:ZL z TO i1 i2 l2) (c1:CoK b s.heap l1 xs) (c2:CoK c s.heap l2 ys) (hx:xs[k]?=!x) (hy:ys[k]?=!y) (hQ:∀h',ZSt b c z TI TO i1 i2 l1 l2 (rawInt s.heap.objs.size) (k+1) h'->IsPair h' s.heap.objs.size x y->h'.objs.size=s.heap.objs.size+1->
   (∀d o,d≠z->d≠TO->d≠i1->d≠i2->s.heap.get? d=!o->h'.get? d=!o)->Q (!(.ref s.heap.objs.size)) {s with heap:=h'}):wpAny (!6) A (pyNext (.ref z)) Q E s:=by
 let⟨D,hz,hI,⟨a0,d0,hO⟩,h1,h2⟩:=Z
 have hT:s.TypeIs (.ref z) "zip":=⟨_,hz,rfl⟩
 have go:wpAny (!6) A.in1 (Builtin.«zip.__next__» ⟨[.ref z],[]⟩) (λfin s'=>∃v,fin=.done (.ret v)/\Q (!v) s') (λe s'=>False) s:=by
  show wpAny _ _ (field (.ref z) 2>>=_) _ _ _;refine Og (wpAny_field hz rfl (x:=.bool false) rfl ?_);refine Og (wpAny_field hz rfl rfl (Og (wpAny_seqItems hI rfl ?_)));refine Og ?_;refine Og (wpAny_field hz rfl rfl (Oi ?_));refine Og (wpAny_rule (Og (wpAny_field hz rfl rfl (Og (wpAny_setField_rec hz (by simp) λg1 z1 s1=>?_)))));replace z1:IsZip g1 z TI TO .ellipsis:=z1;refine Og ?_;simp only[List.zipIdx_cons,List.zipIdx_nil,List.forIn_cons,List.forIn_nil];refine Og (Og (wpAny_onRaise ?_));refine Og (wn (h1.ext s1 D.i1z) (c1.ext s1 L1.z) hx λg2 k2 s2=>Oi ?_);have O2:=s2.extBut _ _ D.TOi1 (s1.extBut _ _ D.TOz hO);refine Og (wpAny_seqItems O2 rfl (Og (wpAny_updateSeq_pair O2 λg3 O3 s3=>Og (wpAny_letGo (Oi ?_)))));replace O3:IsPair g3 TO x d0:=O3;refine Og (Og (wpAny_onRaise ?_));refine Og (wn (((h2.ext s1 D.i2z).ext s2 D.i12.symm).ext s3 D.TOi2.symm) (((c2.ext s1 L2.z).ext s2 L2.i1).ext s3 L2.TO) hy λg4 k4 s4=>Oi ?_);have O4:=s4.extBut _ _ D.TOi2 O3;refine Og (wpAny_seqItems O4 rfl (Og (wpAny_updateSeq_pair O4 λg5 O5 s5=>Og (wpAny_letGo (Oi (Oi ?_))))));replace O5:IsPair g5 TO x y:=O5;refine Og (wpAny_seqItems O5 rfl (Og (wpAny_newTuple ?_)));have sz:g5.objs.size=s.heap.objs.size:=by rw[s5.1,s4.1,s3.1,s2.1,s1.1]
  have z5:=s5.extBut _ _ D.TOz.symm (s4.extBut _ _ D.i2z.symm (s3.extBut _ _ D.TOz.symm (s2.extBut _ _ D.i1z.symm z1)));have up5:∀d o,d≠z->d≠TO->d≠i1->d≠i2->s.heap.get? d=!o->g5.get? d=!o:=λd o n1 n2 n3 n4 e=>
   s5.extBut _ _ n2 (s4.extBut _ _ n4 (s3.extBut _ _ n2 (s2.extBut _ _ n3 (s1.extBut _ _ n1 e))))
  have a5:=((k2.ext s3 D.TOi1.symm).ext s4 D.i12).ext s5 D.TOi1.symm;have b5:=k4.ext s5 D.TOi2.symm;have zlt:=Oj z5;refine Og ?_;have z6:IsZip (g5.push {cls:=.type "tuple",data:=.seq #[x,y]}) z TI TO .ellipsis:=Oh _ z5;refine Og (wpAny_setField_rec z6 (by simp) λg7 z7 s7=>?_);replace z7:IsZip g7 z TI TO (rawInt g5.objs.size):=z7;refine wpAny_setField_rec z7 (by simp) λg8 z8 s8=>?_;replace z8:IsZip g8 z TI TO _:=z8;have up:∀d o,d≠z->g5.get? d=!o->g8.get? d=!o:=λd o n1 e=>s8.extBut _ _ n1 (s7.extBut _ _ n1 (Oh _ e));have T8:=s8.extBut _ _ (Nat.ne_of_gt zlt) (s7.extBut _ _ (Nat.ne_of_gt zlt) (Ol _ rfl));have sz8:g8.objs.size=g5.objs.size+1:=by rw[s8.1,s7.1,Heap.size_push]
  rw[sz]at z8 T8 sz8;refine Oi ⟨_,rfl,?_⟩;rw[sz];exact hQ g8 ⟨D,z8,up _ _ D.TIz (up5 _ _ D.TIz D.TITO D.TIi1 D.TIi2 hI),⟨_,_,up _ _ D.TOz O5⟩,a5.at λo e=>up _ o D.i1z e,b5.at λo e=>up _ o D.i2z e⟩ T8 sz8 λd o n1 n2 n3 n4 e=>up d o n1 (up5 d o n1 n2 n3 n4 e)
 refine Og (wpAny_attempt (wpAny_callSpecial?_slot hT F.slot_zip_next (wpAny_call_entry F.slot_zip_next hT F.entry_zip_next (OG go (λfin s' ⟨v,e,q⟩=>⟨v,e,Oi q⟩) λ_ _ q=>q.elim) (F.args_zip_next_1 _))))
end
section
variable {prog:Program} {w:World} {A:Around} {E:N4} {s:Shared}
def zS {z TI TO i1 i2 l1 l2} (hh:A.handled=none) (Z:ZSt b c z TI TO i1 i2 l1 l2 .none k s.heap) (L1:ZL z TO i1 i2 l1) (L2:ZL z TO i1 i2 l2) (c1:CoK b s.heap l1 xs) (c2:CoK c s.heap l2 ys) (hend:xs[k]?=none\/ys[k]?=none) (hQ:∀h',(∀d o,d≠z->d≠TO->d≠i1->d≠i2->s.heap.get? d=!o->h'.get? d=!o)->Q none {s with heap:=h'}):wpAny (!6) A (pyNext (.ref z)) Q E s:=by
 let⟨D,hz,hI,⟨a0,d0,hO⟩,h1,h2⟩:=Z;have hT:s.TypeIs (.ref z) "zip":=⟨_,hz,rfl⟩;let EE:N4:=λe s'=>∃h' a,e=.ref a/\s'={s with heap:=h'}/\(∀d o,d≠z->d≠TO->d≠i1->d≠i2->s.heap.get? d=!o->h'.get? d=!o)/\∃o,h'.get? a=!o/\o.cls=.type "StopIteration";have go:wpAny (!6) A.in1 (Builtin.«zip.__next__» ⟨[.ref z],[]⟩) (λfin s'=>False) EE s:=by
  show wpAny _ _ (field (.ref z) 2>>=_) _ _ _;refine Og (wpAny_field hz rfl (x:=.bool false) rfl ?_);refine Og (wpAny_field hz rfl rfl (Og (wpAny_seqItems hI rfl ?_)));refine Og ?_;refine Og (wpAny_field hz rfl rfl (Oi ?_));refine Og (wpAny_rule (Og (wpAny_field hz rfl rfl (Og (wpAny_setField_rec hz (by simp) λg1 z1 s1=>?_)))));replace z1:IsZip g1 z TI TO .ellipsis:=z1;refine Og ?_;simp only[List.zipIdx_cons,List.zipIdx_nil,List.forIn_cons,List.forIn_nil];refine Og (Og (wpAny_onRaise ?_));cases hx:xs[k]? with
  |none=>
   refine Og (j6 hh (h1.ext s1 D.i1z) (c1.ext s1 L1.z) hx λg2 e s2 he=>?_);let⟨oe,hoe,hce⟩:=he;have z2:=s2 _ _ D.i1z.symm z1;have hez:e≠z:=λq=>by subst q;rw[z2]at hoe;cases hoe;simp at hce
   refine wpAny_setField_rec z2 (by simp) λg3 _ s3=>?_;exact⟨g3,e,rfl,rfl,λd o n1 _ n3 _ q=>s3.extBut _ _ n1 (s2 _ _ n3 (s1.extBut _ _ n1 q)),oe,s3.extBut _ _ hez hoe,hce⟩
  |some x=>
   have hy:ys[k]?=none:=by
    rcases hend with h|h
    .rw[hx]at h;cases h
    .exact h
   refine Og (wn (h1.ext s1 D.i1z) (c1.ext s1 L1.z) hx λg2 k2 s2=>Oi ?_);have O2:=s2.extBut _ _ D.TOi1 (s1.extBut _ _ D.TOz hO);refine Og (wpAny_seqItems O2 rfl (Og (wpAny_updateSeq_pair O2 λg3 O3 s3=>Og (wpAny_letGo (Oi ?_)))));refine Og (Og (wpAny_onRaise ?_));refine Og (j6 hh (((h2.ext s1 D.i2z).ext s2 D.i12.symm).ext s3 D.TOi2.symm) (((c2.ext s1 L2.z).ext s2 L2.i1).ext s3 L2.TO) hy λg4 e s4 he=>?_);let⟨oe,hoe,hce⟩:=he;have z4:=s4 _ _ D.i2z.symm (s3.extBut _ _ D.TOz.symm (s2.extBut _ _ D.i1z.symm z1));have hez:e≠z:=λq=>by subst q;rw[z4]at hoe;cases hoe;simp at hce
   refine wpAny_setField_rec z4 (by simp) λg5 _ s5=>?_;exact⟨g5,e,rfl,rfl,λd o n1 n2 n3 n4 q=>s5.extBut _ _ n1 (s4 _ _ n4 (s3.extBut _ _ n2 (s2.extBut _ _ n3 (s1.extBut _ _ n1 q)))),oe,s5.extBut _ _ hez hoe,hce⟩
 refine Og (wpAny_attempt (wpAny_callSpecial?_slot hT F.slot_zip_next (wpAny_call_entry F.slot_zip_next hT F.entry_zip_next (OG go (λ_ _ q=>q.elim) λe s' q=>?_) (F.args_zip_next_1 _))));let⟨h',a,rfl,rfl,hk,o,ho,hc⟩:=q;exact Og (wpAny_isInstance ⟨o,ho,hc⟩ isSubtype_stop (Oi (hQ _ hk)))
noncomputable def  aB:Bool->Addr->Obj
 |true,l=>{cls:=.type "list_iterator",data:=.fields #[.ref l,.int 0 0]}
 |false,l=>{cls:=.type "tuple_iterator",data:=.fields #[.ref l,.int 0 0]}
def sK (h:CoK b s.heap l its) (hQ:Q (.ref s.heap.objs.size) {s with heap:=s.heap.push (aB b l)}):wpAny (!6) A (pyIter (.ref l)) Q E s:=by
 cases b
 .exact wpAny_pyIter_tuple h hQ
 .exact wpAny_pyIter_list h hQ
abbrev zG (h:Heap) (b c:Bool) (l1 l2:Addr):Heap:=((((h.push (aB b l1)).push (aB c l2)).push {cls:=.type "tuple",data:=.seq #[.ref h.objs.size,.ref (h.push (aB b l1)).objs.size]}).push {cls:=.type "tuple",data:=.seq #[.none,.none]}).push
 {cls:=.type "zip",data:=.fields #[.none,.bool false,.bool false,.ref ((h.push (aB b l1)).push (aB c l2)).objs.size,.ref (((h.push (aB b l1)).push (aB c l2)).push {cls:=.type "tuple",data:=.seq #[.ref h.objs.size,.ref (h.push (aB b l1)).objs.size]}).objs.size]}
def zT (b c:Bool) (l1 l2:Addr) (xs ys:Ob):
  Meets (Builtin.«zip.__new__» ⟨[.type "zip",.ref l1,.ref l2],[]⟩) (λ_ R s=>CoK b s.heap l1 xs/\CoK c s.heap l2 ys/\
   R (.ok (.ret (.ref (s.heap.objs.size+4)))) {s with heap:=zG s.heap b c l1 l2}):=
 .of_wp λprog w A R s h=>by
  let⟨hp,g,d,tk,os⟩:=s;let⟨hl1,hl2,h⟩:=h;have hsub:=sub_zip;have hL1:CoK b (Shared.heap ⟨hp,g,d,tk,os⟩) l1 xs:=hl1;have hL2:CoK c (Shared.heap ⟨hp.push (aB b l1),g,d,tk,os⟩) l2 ys:=CoK.at hl2 λo e=>Oh _ e;wp_walk using sK hL1,sK hL2;refine⟨_,rfl,?_⟩;have z4:((((hp.push (aB b l1)).push (aB c l2)).push {cls:=.type "tuple",data:=.seq #[.ref hp.objs.size,.ref (hp.push (aB b l1)).objs.size]}).push {cls:=.type "tuple",data:=.seq #[.none,.none]}).objs.size=hp.objs.size+4:=by
   rw[Heap.size_push,Heap.size_push,Heap.size_push,Heap.size_push]
  rw[<-z4]at h;exact h
def xV (hl1:CoK b s.heap l1 xs) (hl2:CoK c s.heap l2 ys) (h:∀h',ZSt b c (s.heap.objs.size+4) (s.heap.objs.size+2) (s.heap.objs.size+3) s.heap.objs.size (!13) l1 l2 .none 0 h'->h'.objs.size=s.heap.objs.size+5->
   (∀d o,s.heap.get? d=!o->h'.get? d=!o)->Q (.ref (s.heap.objs.size+4)) {s with heap:=h'}):
  wpAny (!6) A (call (.type "zip") [.ref l1,.ref l2]) Q E s:=by
 refine callType_new F.called_zip (!5) (F.typeCall_zip_2 _ _) (F.newCall_zip_2 _ _) (λobj=>F.args_object_init_3 obj _ _) F.entry_zip_new (zT b c l1 l2 xs ys) ⟨hl1,hl2,?_⟩
 have z1:(s.heap.push (aB b l1)).objs.size=s.heap.objs.size+1:=Heap.size_push ..
 have z2:((s.heap.push (aB b l1)).push (aB c l2)).objs.size=s.heap.objs.size+2:=by rw[Heap.size_push,z1]
 have z3:(((s.heap.push (aB b l1)).push (aB c l2)).push {cls:=.type "tuple",data:=.seq #[.ref s.heap.objs.size,.ref (s.heap.push (aB b l1)).objs.size]}).objs.size=s.heap.objs.size+3:=by rw[Heap.size_push,z2]
 have z4:((((s.heap.push (aB b l1)).push (aB c l2)).push {cls:=.type "tuple",data:=.seq #[.ref s.heap.objs.size,.ref (s.heap.push (aB b l1)).objs.size]}).push {cls:=.type "tuple",data:=.seq #[.none,.none]}).objs.size=s.heap.objs.size+4:=by rw[Heap.size_push,z3]
 have z5:(zG s.heap b c l1 l2).objs.size=s.heap.objs.size+5:=by rw[Heap.size_push,z4]
 have g5:IsZip (zG s.heap b c l1 l2) (s.heap.objs.size+4) (s.heap.objs.size+2) (s.heap.objs.size+3) .none:=by
  have:=Ol ((((s.heap.push (aB b l1)).push (aB c l2)).push {cls:=.type "tuple",data:=.seq #[.ref s.heap.objs.size,.ref (s.heap.push (aB b l1)).objs.size]}).push {cls:=.type "tuple",data:=.seq #[.none,.none]})
   (o:={cls:=.type "zip",data:=.fields #[.none,.bool false,.bool false,.ref ((s.heap.push (aB b l1)).push (aB c l2)).objs.size,.ref (((s.heap.push (aB b l1)).push (aB c l2)).push {cls:=.type "tuple",data:=.seq #[.ref s.heap.objs.size,.ref (s.heap.push (aB b l1)).objs.size]}).objs.size]}) rfl
  rw[z4]at this;rw[<-z2,<-z3];exact this
 have g4:IsPair (zG s.heap b c l1 l2) (s.heap.objs.size+3) .none .none:=by
  have:=Ol (((s.heap.push (aB b l1)).push (aB c l2)).push {cls:=.type "tuple",data:=.seq #[.ref s.heap.objs.size,.ref (s.heap.push (aB b l1)).objs.size]}) (o:={cls:=.type "tuple",data:=.seq #[.none,.none]}) rfl;rw[z3]at this;exact Oh _ this
 have g3:IsPair (zG s.heap b c l1 l2) (s.heap.objs.size+2) (.ref s.heap.objs.size) (.ref (!13)):=by
  have:=Ol ((s.heap.push (aB b l1)).push (aB c l2)) (o:={cls:=.type "tuple",data:=.seq #[.ref s.heap.objs.size,.ref (s.heap.push (aB b l1)).objs.size]}) rfl;rw[z2]at this;rw[<-z1];exact Oh _ (Oh _ this)
 have fr:∀o,o.isFreed=false->∀ (hh:Heap),(hh.push o).get? hh.objs.size=!o:=λo ho hh=>Ol _ ho
 have fb:∀ (b:Bool) (l:Addr),(aB b l).isFreed=false:=λb l=>by cases b<;>rfl
 have g2:(zG s.heap b c l1 l2).get? (!13)=!(aB c l2):=by rw[<-z1];exact Oh _ (Oh _ (Oh _ (fr _ (fb c l2) _)))
 have g1:(zG s.heap b c l1 l2).get? s.heap.objs.size=!_:=Oh _ (Oh _ (Oh _ (Oh _ (fr _ (fb b l1) _))))
 have toIt':∀ (d:Bool) (a l:Addr) (G:Heap),G.get? a=!(aB d l)->ItK d G a l 0:=λd a l G e=>by cases d<;>exact⟨_,e,rfl,rfl⟩
 refine⟨⟨_,g5,rfl⟩,h _ ⟨⟨?_,?_,?_,?_,?_,?_,?_,?_,?_,?_⟩,g5,g3,⟨_,_,g4⟩,toIt' b _ _ _ g1,toIt' c _ _ _ g2⟩ z5 λd o x=>Oh _ (Oh _ (Oh _ (Oh _ (Oh _ x))))⟩
 all_goals (show(_:Nat)≠_;omega)
end
section
variable {X:Cx} {pins:N1} {σ:List (Option V)} {H:Hp} {s:Shared} {h':Heap}
def mS {ch:List Addr} (I:Inv X pins σ H s) (hf:∀b∈ch,H b=none) (k:∀b o,b ∉ ch->s.heap.get? b=!o->h'.get? b=!o):HOk X.prog X.w H h':=λb u e=>by
 have nit:∀b u,H b=!u->b ∉ ch:=λb u e z=>by rw[hf b z]at e;cases e
 refine(I.hok b u e).stay (λc v hc q=>k c v ?_ q) (λ_ q=>q) λ_ _ q=>q;grind
def Fj {ch:List Addr} (hf:∀b∈ch,iX X pins H b):∀b∈ch,(b∈X.ex\/X.s₀.heap.objs.size<=b)/\b≠X.env.locals/\(∀x c,X.env.cells.lookup x=!c->c≠b)/\∀p∈X.pn++pins,p.1≠b:=λb hb=>by
 let⟨f0,f1,f2,f3,f4,f5⟩:=hf b hb;grind
def Inv.turnedL {ch:List Addr} (I:Inv X pins σ H s) (hf:∀b∈ch,iX X pins H b) (k:∀b o,b ∉ ch->s.heap.get? b=!o->h'.get? b=!o):Inv X pins σ H {s with heap:=h',toks:=t'}:=by
 refine I.step (Fj hf) (λb o _ _ hc e _=>k b o hc e) (λb o _ _ hc e _=>⟨o.slots,k b o hc e⟩) (λ_ _ _ _ n=>n)
  (λb o hc e=>⟨o,k b o hc e⟩) (λ_ _ e=>e) (λ_ _ _ e=>e) (λb ps e=>⟨#[],by rw[e];simp⟩) (λm hm=>?_) (mS I (λb hb=>(hf b hb).1) k) I.bare
 let⟨o,es,ep,ho,r⟩:=hm;exact⟨o,es,ep,k _ o (λz=>(hf _ z).2.1 rfl) ho,r⟩
def Inv.turnedNew {ch:List Addr} {p:Addr} (I:Inv X pins σ H s) (hf:∀b∈ch,iX X pins H b) (k:∀b o,b ∉ ch->s.heap.get? b=!o->h'.get? b=!o) (hp:s.heap.objs.size<=p) (new:ObjOk X.prog X.w (upd H p o) h' p o):Inv X pins σ (upd H p o) {s with heap:=h',toks:=t'}:=by
 have hn:=I.hok.fresh hp;have lt:∀b o,s.heap.get? b=!o->b≠p:=λb o e=>Ow (Ot (Oj e) hp);have keep:∀b u,H b=!u->upd H p o b=!u:=λb u e=>by rw[ae (ak e hn)];exact e
 refine I.step (Fj hf) (λb o _ _ hc e _=>k b o hc e) (λb o _ _ hc e _=>⟨o.slots,k b o hc e⟩) (λb o _ e n=>by rw[ae (lt b o e)];exact n)
  (λb o hc e=>⟨o,k b o hc e⟩) (λb xs e=>keep b _ e) (λb o u e=>keep b _ e) (λb ps e=>⟨#[],by rw[keep b _ e];simp⟩) (λm hm=>?_) ((mS I (λb hb=>(hf b hb).1) k).adopt hn new) I.bare
 let⟨o,es,ep,ho,r⟩:=hm;exact⟨o,es,ep,k _ o (λz=>(hf _ z).2.1 rfl) ho,r⟩
def  SqK (b:Bool) (K:Frag) (H:Hp) (a:Addr) (xs:List V):Prop:=if b=true then SqL K H a xs else SqT K H a xs
def Inv.coK (I:Inv X pins σ H s) (h:SqK b X.K H a xs):∃its:N5,Vals xs its/\CoK b s.heap a its.toArray/\xs.length<=sizeLine:=by
 cases b
 .let⟨its,r,t,z⟩:=I.tuple (h);exact⟨its,r,t,z⟩
 .let⟨its,r,t,z⟩:=I.list (h);exact⟨its,r,t.isList,z⟩
def Inv.coK_inj (I:Inv X pins σ H s) (h:SqK b X.K H a xs) (h':SqK b X.K H a ys):xs=ys:=by
 cases b
 .exact I.tuple_inj h h'
 .exact I.list_inj h h'
end
def  Itz (K:Frag) (b c:Bool) (l1 l2:Addr):It:=
 ⟨λi H=>∃xs ys x y,SqK b K H l1 xs/\SqK c K H l2 ys/\xs[i]?=!x/\ys[i]?=!y,
  λi H v H'=>∃p x y,v=.ref p/\H p=none/\H'=upd H p (.tup [x,y])/\(∀xs,SqK b K H l1 xs->xs[i]?=!x)/\∀ys,SqK c K H l2 ys->ys[i]?=!y,
  λi H=>∃xs ys,SqK b K H l1 xs/\SqK c K H l2 ys/\(xs.length<=i\/ys.length<=i)⟩
def CoK.get (x:CoK b h l its):∃o,h.get? l=!o/\∃n,o.data=.seq its n:=by
 cases b
 .let⟨o,e,_,n,d⟩:=x;exact⟨o,e,n,d⟩
 .let⟨o,e,_,n,d⟩:=x;exact⟨o,e,n,d⟩
def wq {z TI TO i1 i2 l1 l2 l} (Z:ZSt b c z TI TO i1 i2 l1 l2 f0 k h) (C:CoK d h l its) (hO:l≠TO):ZL z TO i1 i2 l:=by
 let⟨o,e,n,q⟩:=C.get;refine⟨λy=>?_,hO,λy=>?_,λy=>?_⟩
 .subst y;rw[Z.hz]at e;cases e;cases q
 .subst y;let⟨o',_,vs,e',_,d',_⟩:=Z.h1.live;rw[e']at e;cases e;rw[d']at q;cases q
 .subst y;let⟨o',_,vs,e',_,d',_⟩:=Z.h2.live;rw[e']at e;cases e;rw[d']at q;cases q
def zU {P:Program} {w:World} {K:Frag} {elts:Od} {x1:Nat} {tpos:Pos} (b c:Bool) (l1 l2 z TI TO i1 i2:Addr) (n1:l1≠TO) (n2:l2≠TO):
  Turn P w K (.Tuple elts x1 tpos) (Itz K b c l1 l2) [z,TI,TO,i1,i2] z (λi h=>ZSt b c z TI TO i1 i2 l1 l2 .none i h) where
 mem:=by simp
 obj:=λi h Z d hd=>by
  simp at hd;rcases hd with rfl|rfl|rfl|rfl|rfl
  .exact⟨_,Z.hz,λv q=>by cases q⟩
  .exact⟨_,Z.hI,λv q=>by cases q⟩
  .let⟨a,d,e⟩:=Z.hO;exact⟨_,e,λv q=>by cases q⟩
  .let⟨o,n,vs,e,_,dd,_⟩:=Z.h1.live;exact⟨o,e,λv q=>by rw[dd]at q;cases q⟩
  .let⟨o,n,vs,e,_,dd,_⟩:=Z.h2.live;exact⟨o,e,λv q=>by rw[dd]at q;cases q⟩
 keep:=λi h h' Z k=>by
  let⟨a,d,e⟩:=Z.hO;exact⟨Z.ap,k z (by simp) _ Z.hz,k TI (by simp) _ Z.hI,⟨a,d,k TO (by simp) _ e⟩,Z.h1.at λo q=>k i1 (by simp) o q,Z.h2.at λo q=>k i2 (by simp) o q⟩
 item:=by
  intro X hP hw hK hc i pins s σ H E I hf Z hg;subst hP hw hK;let⟨xs,ys,x,y,hx,hy,ex,ey⟩:=hg;let⟨its,rv,p1,hz1⟩:=I.coK hx;let⟨jts,rw',p2,hz2⟩:=I.coK hy;let⟨u,hu,ru⟩:=rv.get ex;let⟨v,hv,rv'⟩:=rw'.get ey;have L1:=wq Z p1 n1;have L2:=wq Z p2 n2;refine zR Z L1 L2 p1 p2 (by simpa using hu) (by simpa using hv) λh' Z' T' sz k'=>⟨_,rfl,?_⟩;refine wpAny_letOwnedTupleGo_zip Z'.hz λh2 hz2' sb=>?_;have zlt:=Oj Z.hz;have hne:=Nat.ne_of_gt zlt;have Z2:ZSt b c z TI TO i1 i2 l1 l2 .none (i+1) h2:=by
   let⟨a,d,e⟩:=Z'.hO;exact⟨Z.ap,hz2',sb.extBut _ _ Z.ap.TIz Z'.hI,⟨a,d,sb.extBut _ _ Z.ap.TOz e⟩,Z'.h1.at λo q=>sb.extBut _ _ Z.ap.i1z q,Z'.h2.at λo q=>sb.extBut _ _ Z.ap.i2z q⟩
  have T2:=sb.extBut _ _ hne T';have kk:∀d o,d ∉ [z,TI,TO,i1,i2]->s.heap.get? d=!o->h2.get? d=!o:=λd o hd e=>by
   simp at hd;exact sb.extBut _ _ hd.1 (k' d o hd.1 hd.2.2.1 hd.2.2.2.1 hd.2.2.2.2 e)
  have fr:=I.hok.fresh (OF _);refine⟨.ref s.heap.objs.size,_,I.turnedNew hf kk (OF _) ?_,rfl,⟨s.heap.objs.size,x,y,rfl,fr,rfl,λzs hzs=>by rw[I.coK_inj hzs hx];exact ex,λzs hzs=>by rw[I.coK_inj hzs hy];exact ey⟩,Z2,λd hd=>?_⟩
  .exact⟨by show 2<=sizeLine;decide,[u,v],.cons ru (.cons rv' .nil),⟨_,T2,rfl,_,rfl⟩⟩
  .obtain⟨o,eo,_⟩:∃o,s.heap.get? d=!o/\True:=by
    simp at hd;rcases hd with rfl|rfl|rfl|rfl|rfl
    .exact⟨_,Z.hz,trivial⟩
    .exact⟨_,Z.hI,trivial⟩
    .let⟨a,d,e⟩:=Z.hO;exact⟨_,e,trivial⟩
    .let⟨o,n,vs,e,_⟩:=Z.h1.live;exact⟨_,e,trivial⟩
    .let⟨o,n,vs,e,_⟩:=Z.h2.live;exact⟨_,e,trivial⟩
   rw[ae (Nat.ne_of_lt (Heap.lt_size eo))];exact(hf d hd).1
 done:=by
  intro X hP hw hK hc i pins s σ H E I hf Z hg;subst hP hw hK;let⟨xs,ys,hx,hy,hl⟩:=hg;let⟨its,rv,p1,hz1⟩:=I.coK hx;let⟨jts,rw',p2,hz2⟩:=I.coK hy;have e1:=rv.length;have e2:=rw'.length;refine zS (I.ok.hd hc) Z (wq Z p1 n1) (wq Z p2 n2) p1 p2 ?_ λh' k'=>⟨rfl,I.turnedL hf λd o hd e=>?_⟩
  .rcases hl with hl|hl
   .exact .inl (by simp;omega)
   .exact .inr (by simp;omega)
  .simp at hd;exact k' d o hd.1 hd.2.2.1 hd.2.2.2.1 hd.2.2.2.2 e
 self:=λ_ _ _ _ _ Z h=>wpAny_pyIter_zip Z.hz h
section
variable {X:Cx} {tg a b e:Expr} {es:Od} {p pos:Pos}
def J3:bootBuiltins "zip"=!(.type "zip"):=by decide+kernel
def  Mx (K:Frag) (ta:TA):TI:=λσ H R=>ta σ H λvs H1=>∃b c l1 l2 xs ys,vs=[.ref l1,.ref l2]/\SqK b K H1 l1 xs/\SqK c K H1 l2 ys/\R (Itz K b c l1 l2) H1
def GF {x1} (hg:Gl X "zip") (hm:X.mg "zip"=none) (ha:PA X [a,b] ta) (hs:starEach [a,b] X.env=[(false,eval a X.env),(false,eval b X.env)]) (hs2:starEach [b] X.env=[(false,eval b X.env)]):
  PI X (.Tuple elts x1 tpos) (.Call (.Name "zip" p) [a,b] [] pos) (Mx X.K ta):=by
 intro pins s σ H R I h
 refine Call_ (cE I hg hm J3 (PyProof.Rows.callWith_type1 (thn (ha pos pins s σ H _ I h) λus s1 ⟨vs,H1,I1,r1,q1⟩=>?_) (by rw[hs,hs2]) (by rw[hs2];rfl)))
 let⟨b,c,l1,l2,xs,ys,e,hx,hy,q⟩:=q1
 subst e
 let⟨u,v,rfl,ru,rv⟩:=zg r1
 cases ru
 cases rv
 let⟨its,rx,p1,_⟩:=I1.coK hx
 let⟨jts,ry,p2,_⟩:=I1.coK hy
 have lt:∀ {d:Bool} {l:Addr} {its:Ob},CoK d s1.heap l its->l<s1.heap.objs.size:=λC=>by let⟨o,e,_⟩:=C.get;exact Oj e
 refine xV p1 p2 λh' Z sz k=>wpAny_pyIter_zip Z.hz ?_
 have I2:Inv X pins σ H1 {s1 with heap:=h'}:=I1.kept k
 refine⟨s1.heap.objs.size+4,[s1.heap.objs.size+4,s1.heap.objs.size+2,s1.heap.objs.size+3,s1.heap.objs.size,s1.heap.objs.size+1],_,_,H1,rfl,I2,zU b c l1 l2 _ _ _ _ _ ?_ ?_,Z,λd hd=>?_,q⟩
 .exact Ow (Ot (lt p1) (Nat.le_add_right _ _))
 .exact Ow (Ot (lt p2) (Nat.le_add_right _ _))
 .have hge:s1.heap.objs.size<=d:=by
   simp at hd;rcases hd with rfl|rfl|rfl|rfl|rfl<;>first|exact Nat.le_add_right _ _|exact OF _
  exact I1.fpOk hge (I1.hok.fresh hge)
noncomputable def  i7 (xs ys:Oc):Oc:=(xs.zip ys).map λp=>.tup [p.1,p.2]
def SqK.mono {b} {K} (s:Same H H') (h:SqK b K H l xs):SqK b K H' l xs:=by
 cases b
 .exact s.seqT h
 .exact s.seq h
def zV {K} {b c} {ds es} (hx:SqK b K Hm l1 xs) (hy:SqK c K Hm l2 ys) (il:IsL K Hm ds xs) (jl:IsL K Hm es ys):mQ K Hm (Itz K b c l1 l2) (i7 ds es):=λi H O s hd=>by
 have hx':=hx.mono (s.trans msk_le);have hy':=hy.mono (s.trans msk_le);refine⟨λd hi=>?_,λhi=>⟨xs,ys,hx',hy',?_⟩⟩
 .unfold i7 at hi;rw[getElem?_map]at hi;cases e:(ds.zip es)[i]? with
  |none=>rw[e]at hi;cases hi
  |some pr=>
   rw[e]at hi;cases hi;let⟨e1,e2⟩:=List.getElem?_zip_eq_some.mp e;let⟨x,ex,ix⟩:=il.get e1;let⟨y,ey,iy⟩:=jl.get e2;refine⟨⟨xs,ys,x,y,hx',hy',ex,ey⟩,?_⟩;rintro v H3 ⟨q,x',y',rfl,hq,rfl,kx,ky⟩;have z1:=kx xs hx';have z2:=ky ys hy';rw[ex]at z1;cases z1;rw[ey]at z2;cases z2;have hO:=fH hd hq;refine⟨Same.new hq,q,[x,y],rfl,.of (by rw[aA hO,ai]),?_⟩;have le:Same (msk O H) (msk O (upd H q (.tup [x,y]))):=(Same.new hq).msk;exact⟨x,[y],rfl,Is.mono (s.trans le) _ _ ix,y,[],rfl,Is.mono (s.trans le) _ _ iy,rfl⟩
 .have h1:=il.len;have h2:=jl.len;unfold i7 at hi;rw[length_map,List.length_zip]at hi;omega
def  uM:Oc->N3:=un2 λc d=>(seqD c).bind λxs=>(seqD d).bind λys=>!(i7 xs ys)
def uN {K} (h:SqL K H l xs\/SqT K H l xs):∃b,SqK b K H l xs:=by
 rcases h with h|h
 .exact⟨true,h⟩
 .exact⟨false,h⟩
def GG {x1} (hg:Gl X "zip") (hm:X.mg "zip"=none) (ha:PX X [a,b] fa) (hs:starEach [a,b] X.env=[(false,eval a X.env),(false,eval b X.env)]) (hs2:starEach [b] X.env=[(false,eval b X.env)]):
  PJ X (.Tuple elts x1 tpos) (.Call (.Name "zip" p) [a,b] [] pos) (λY=>(fa Y).bind uM):=λO Y=>(GF hg hm (ha O Y) hs hs2).imp λσ H R ⟨E,ds,q,k⟩=>by
 let⟨as,e1,q⟩:=OH q
 refine⟨E,as,e1,λvs H1 s1 il=>?_⟩
 let⟨c,d,rfl,q1⟩:=jo q
 let⟨xs,q2,q3⟩:=OH q1
 let⟨ys,q4,q5⟩:=OH q3
 cases q5
 let⟨u,v,rfl,iu,iv⟩:=is2 il
 let⟨l1,us,rfl,t1,m1⟩:=f7 q2 iu
 let⟨l2,ws,rfl,t2,m2⟩:=f7 q4 iv
 let⟨b1,t1⟩:=uN t1
 let⟨b2,t2⟩:=uN t2
 exact⟨b1,b2,l1,l2,us,ws,rfl,t1.mono msk_le,t2.mono msk_le,k _ H1 s1 (zV t1 t2 m1 m2)⟩
noncomputable def  zW:D->Oe
 |.int i=>!(.int (-i))
 |_=>none
def zX (ha:PP X a fa):PP X (.UnaryOp .USub a pos) (λY=>(fa Y).bind zW):=λO Y=>(Jn Gc (ha O Y)).imp λσ H Q ⟨E,d,q,k⟩=>by
 let⟨c,e1,e2⟩:=OH q;refine⟨E,c,e1,λv H1 s1 i1=>?_⟩;cases c with
 |int i=>cases e2;exact⟨i,i1,k _ H1 s1 rfl⟩
 |_=>cases e2
def b_max:bootBuiltins "max"=!(.builtin "max"):=by decide+kernel
def b_min:bootBuiltins "min"=!(.builtin "min"):=by decide+kernel
def  My:Oc->Oe:=un2 λc d=>(lH c).bind λi=>(lH d).bind λj=>!(.int (if j>i then j else i))
def  Dn:Oc->Oe:=un2 λc d=>(lH c).bind λi=>(lH d).bind λj=>!(.int (if j<i then j else i))
def rn_min:RnD X.K (λxs H Q=>∃i j,xs=[.int i,.int j]/\Q (.int (if j<i then j else i)) H) Dn:=λO H xs ds d Q hd l e k=>by
 let⟨c,c',rfl,e⟩:=jo e;let⟨i,e1,e⟩:=OH e;let⟨j,e2,e⟩:=OH e;cases e;let⟨u,v,rfl,iu,iv⟩:=is2 l;cases intD_some e1;cases intD_some e2;exact⟨i,j,by rw[show u=.int i from iu,show v=.int j from iv],k _ H (Same.refl _) rfl⟩
noncomputable def  GH:D->Bool
 |.non=>true
 |_=>false
def Do {K} (h:Is K H d v):decide (v=.non)=GH d:=by
 cases d with
 |non=>cases(h);rfl
 |bl _=>cases(h);rfl
 |int _=>cases(h);rfl
 |str _=>cases(h);rfl
 |ty _=>cases(h);rfl
 |adr _=>cases(h);rfl
 |tup _=>let⟨a,xs,rfl,_⟩:=h;rfl
 |lst _=>let⟨a,xs,rfl,_⟩:=h;rfl
 |obj _ _ _=>let⟨a,Ca,dx,fs,rfl,_⟩:=h;rfl
 |dct _ _=>let⟨a,kvs,rfl,_⟩:=h;rfl
def  iE (neg:Bool):D->D->Oe
 |d,.non=>!(.bl (if neg then not (GH d) else GH d))
 |_,_=>none
def r_isN {K}:R2D K (λx y H Q=>y=.non/\Q (.bl (decide (x=.non))) H) (iE false):=λO H x y dx dy d Q _ ix iy e k=>by
 cases dy with
 |non=>cases e;exact⟨iy,k _ H (Same.refl _) (by rw[Do ix];rfl)⟩
 |_=>cases e
def  uO:D->D->Oe
 |x,.lst ds=>if aZ x&&ds.all aZ then !(.bl (not (inL x ds)))else none
 |x,.tup ds=>if aZ x&&ds.all aZ then !(.bl (not (inL x ds)))else none
 |_,_=>none
def r_notIn {K}:R2D K (rIn K true) uO:=λO H x y dx dy d Q hd ix iy e k=>by
 cases dy with
 |lst ds=>
  let⟨h1,h2⟩:=ar (e);rw[and_eq_true]at h1;subst h2;let⟨p,xs,rfl,q,l⟩:=iy;let⟨e1,e2⟩:=hZ h1.1 ix;let⟨e3,e4⟩:=gE h1.2 l;exact⟨p,xs,rfl,.inl (msk_le.seq q),e2,e4,k _ H (Same.refl _) (by rw[e1,e3];rfl)⟩
 |tup ds=>
  let⟨h1,h2⟩:=ar (e);rw[and_eq_true]at h1;subst h2;let⟨p,xs,rfl,q,l⟩:=iy;let⟨e1,e2⟩:=hZ h1.1 ix;let⟨e3,e4⟩:=gE h1.2 l;exact⟨p,xs,rfl,.inr (msk_le.seqT q),e2,e4,k _ H (Same.refl _) (by rw[e1,e3];rfl)⟩
 |_=>cases e
def  oG (ds:Oc) (lo hi:Of):Oc:=(ds.drop (HT.sIx ds.length 0 lo)).take (HT.sIx ds.length ds.length hi-HT.sIx ds.length 0 lo)
def zY {K} (l:IsL K H ds xs) (lo hi:Of):IsL K H (oG ds lo hi) (xL xs lo hi):=by
 unfold oG xL;rw[<-l.len];exact .of (kZ _ (lb _ l.paired))
def Dp:SlR X (λx lo hi H Q=>∃a xs,x=.ref a/\SqT X.K H a xs/\(HT.sIx xs.length 0 lo=0/\HT.sIx xs.length xs.length hi=xs.length)/\Q (.ref a) H):=by
 intro pins s σ H x v vl vu lo hi sl Q I rx hs pl pu h;let⟨a,xs,rfl,hx,hw,q⟩:=h;cases rx;let⟨its,r,ht,hz⟩:=I.tuple hx;have hlen:its.toArray.size=xs.length:=by rw[size_toArray];exact r.length.symm
 refine⟨"tuple",_,PyProof.Rows.slot_tuple_getitem.lookup,ht.typeIs,?_⟩;let⟨os,hos,hcs,hds⟩:=id hs;have hTs:s.TypeIs (.ref sl) "slice":=⟨os,hos,hcs⟩;unfold getItem;try with_reducible refine wpAny_holding ?_
 first|refine Og (Oi ?_)|skip
 refine Og (wpAny_sequenceKey ht.typeIs (!5) ?_);refine Og (wpAny_callSpecial?_slot ht.typeIs PyProof.Rows.slot_tuple_getitem (wpAny_call_entry PyProof.Rows.slot_tuple_getitem ht.typeIs entry_tuple_getitem ?_ (args_tuple_getitem _ _)));show wpAny _ _ (Builtin.Tuple.tupleItemsOf (.ref a)>>=_) _ _ s;refine Og (tupleItemsOf_ ht (Og (wpAny_typeOf hTs ?_)));refine Og (HT.sliceApplied_gen hs pl pu ?_);have hyes:(((HT.sIx its.toArray.size 0 lo:Nat):Int)==0&&(1:Int)==1&&(HT.sIx its.toArray.size its.toArray.size hi-HT.sIx its.toArray.size 0 lo)==its.toArray.size)=true:=by
  rw[hlen,hw.1,hw.2];simp
 show wpAny _ _ (if(((HT.sIx its.toArray.size 0 lo:Nat):Int)==0&&(1:Int)==1&&(HT.sIx its.toArray.size its.toArray.size hi-HT.sIx its.toArray.size 0 lo)==its.toArray.size)=true then _ else _) _ _ s;rw[if_pos hyes];refine Og (Og (wpAny_typeOf ht.typeIs (Oi ?_)));exact Og (wpAny_rule (Oi ⟨_,rfl,Oi ⟨.ref a,H,I,rfl,q⟩⟩))
def  PPo (X:Cx) (e:Option Expr) (f:Vv->Option (Of)):Prop:=∀O Y,PO X e (λσ H Q=>VE X.K O σ H Y/\∃i,f Y=!i/\∀H',Same H H'->Q i H')
def PO.imp {e} (h:PO X e t) (k:∀σ H Q,t' σ H Q->t σ H Q):PO X e t':=λpins s σ H Q I q=>h pins s σ H Q I (k _ _ _ q)
def zZ:PPo X none (λ_=>!none):=λO Y=>po_none.imp λσ H Q ⟨E,i,q,k⟩=>by
 cases q;exact k H (Same.refl _)
def  c4 (f:wp):Vv->Option (Of):=λY=>(f Y).bind λd=>(lH d).bind λi=>!(!i)
def z0 (h:PP X e f):PPo X (!e) (c4 f):=λO Y=>(CT (h O Y)).imp λσ H Q ⟨E,i,q,k⟩=>by
 let⟨d,q1,q2⟩:=OH q;let⟨j,q3,q4⟩:=OH q2;cases q4;refine⟨E,d,q1,λv H1 s1 iv=>?_⟩;cases intD_some q3;exact⟨j,iv,k H1 s1⟩
def  sM (f:wp) (fl fh:Vv->Option (Of)):wp:=λY=>(f Y).bind λd=>(fl Y).bind λlo=>(fh Y).bind λhi=>match d with
 |.tup ds=>!(.tup (oG ds lo hi))
 |_=>none
def  xW (f:wp) (fl fh:Vv->Option (Of)):dl:=λY=>(f Y).bind λd=>(fl Y).bind λlo=>(fh Y).bind λhi=>match d with
 |.lst ds=>!(oG ds lo hi)
 |_=>none
def xX {lo hi} (h:HT.sIx ds.length 0 lo=0/\HT.sIx ds.length ds.length hi=ds.length):oG ds lo hi=ds:=by
 unfold oG;rw[h.1,h.2];simp
def GI {lo hi} (h:PP X e f) (hl:PPo X lo fl) (hh:PPo X hi fh):PP X (.Subscript e (.Slice lo hi none p2) pos) (sM f fl fh):=λO Y=>
 (sw (sl_tup.or Dp) (h O Y) (hl O Y) (hh O Y)).imp λσ H Q ⟨E,d,q,k⟩=>by
 let⟨c,q1,q⟩:=OH q;let⟨l,q2,q⟩:=OH q;let⟨u,q3,q⟩:=OH q;refine⟨E,c,q1,λv H1 s1 iv=>⟨E.grow s1,l,q2,λH2 s2=>⟨E.grow (s1.trans s2),u,q3,λH3 s3=>?_⟩⟩⟩;cases c with
 |tup ds=>
  cases q;have iv':=Is.mono (s2.trans s3).msk _ _ iv;let⟨a,xs,rfl,t,il⟩:=iv';have s13:=s1.trans (s2.trans s3);by_cases hw:HT.sIx xs.length 0 l=0/\HT.sIx xs.length xs.length u=xs.length
  .refine .inr ⟨a,xs,rfl,msk_le.seqT t,hw,k _ H3 s13 ?_⟩;rw[xX (by rw[il.len];exact hw)];exact⟨a,xs,rfl,t,il⟩
  .refine .inl ⟨a,xs,rfl,msk_le.seqT t,hw,λp hp=>?_⟩;have hO:=(E.grow s13).fresh hp;exact k _ _ (s13.trans (Same.new hp)) ⟨p,_,rfl,.of (by rw[aA hO,ai]),IsL.mono (Same.new hp).msk _ _ (zY il l u)⟩
 |_=>cases q
def Aa {lo hi} (h:PP X e f) (hl:PPo X lo fl) (hh:PPo X hi fh):PF X (.Subscript e (.Slice lo hi none p2) pos) (xW f fl fh):=λO Y=>
 (sw CV (h O Y) (hl O Y) (hh O Y)).imp λσ H Q ⟨E,d,q,k⟩=>by
 let⟨c,q1,q⟩:=OH q;let⟨l,q2,q⟩:=OH q;let⟨u,q3,q⟩:=OH q;refine⟨E,c,q1,λv H1 s1 iv=>⟨E.grow s1,l,q2,λH2 s2=>⟨E.grow (s1.trans s2),u,q3,λH3 s3=>?_⟩⟩⟩;cases c with
 |lst ds=>
  cases q;have iv':=Is.mono (s2.trans s3).msk _ _ iv;let⟨a,xs,rfl,t,il⟩:=iv';exact⟨a,xs,rfl,msk_le.seq t,λp hp=>k p _ H3 (s1.trans (s2.trans s3)) hp (zY il l u)⟩
 |_=>cases q
end
inductive Cat where
 |sh
 |top
 |deep
 deriving DecidableEq
mutual
noncomputable def  lfD:D->Bool
 |.tup ds=>lfL ds
 |.lst _=>false
 |.obj _ _ _=>false
 |.dct _ _=>false
 |_=>true
noncomputable def  lfL:Oc->Bool
 |[]=>true
 |d::ds=>lfD d&&lfL ds
end
mutual
noncomputable def  Deep (K:Frag) (M H:Hp):D->V->List Addr->Prop
 |.non,v,A=>v=.non/\A=[]
 |.bl b,v,A=>v=.bl b/\A=[]
 |.int i,v,A=>v=.int i/\A=[]
 |.str x,v,A=>v=.str x/\A=[]
 |.ty n,v,A=>v=.ty n/\A=[]
 |.adr a,v,A=>v=.ref a/\A=[]
 |.tup ds,v,A=>∃a xs,v=.ref a/\(M a=!(.tup xs)\/(lfL ds=true/\SqT K M a xs))/\DeepL K M H ds xs A
 |.lst ds,v,A=>∃a xs A',v=.ref a/\H a=!(.lst xs)/\A=a::A'/\DeepL K M H ds xs A'
 |.obj _ _ _,_,_=>False
 |.dct ks ds,v,A=>∃a kvs A',v=.ref a/\H a=!(.dK kvs)/\kvs.map (·.1)=ks/\A=a::A'/\DeepL K M H ds (kvs.map (·.2)) A'
noncomputable def  DeepL (K:Frag) (M H:Hp):Oc->List V->List Addr->Prop
 |[],xs,A=>xs=[]/\A=[]
 |d::ds,xs,A=>∃x r A1 A2,xs=x::r/\A=A1++A2/\Deep K M H d x A1/\DeepL K M H ds r A2
end
def  NL (M M':Hp):Prop:=∀b o,M b=!o->¬Hid (!o)->M' b=!o
def NL.of (s:Same M M'):NL M M':=λb o h _=>s b o h
def NL.trans (s:NL M M') (t:NL M' M''):NL M M'':=λb o h q=>t b o (s b o h q) q
def wt:¬Hid (!(.tup xs)):=by rintro(⟨_,z⟩|⟨_,_,_,z⟩|⟨_,z⟩)<;>cases z
def Dq:¬Hid (!(.frz o u)):=by rintro(⟨_,z⟩|⟨_,_,_,z⟩|⟨_,z⟩)<;>cases z
def NL.seqT {K} (e:NL H H') (h:SqT K H a xs):SqT K H' a xs:=by
 rcases h with(h|⟨o,h⟩)|h
 .exact .inl (.inl (e _ _ h wt))
 .exact .inl (.inr ⟨o,e _ _ h Dq⟩)
 .exact .inr h
def tupAt {K} (s:NL M M') (h:M a=!(.tup xs)\/(lfL ds=true/\SqT K M a xs)):M' a=!(.tup xs)\/(lfL ds=true/\SqT K M' a xs):=by
 rcases h with h|⟨f,h⟩
 .exact .inl (s _ _ h wt)
 .exact .inr ⟨f,s.seqT h⟩
def J5 {K} (s:NL M M') (h:M a=!(.tup xs)\/(lfL ds=true/\SqT K M a xs)):SqT K M' a xs:=by
 rcases tupAt s h with h|⟨_,h⟩
 .exact .of h
 .exact h
mutual
theorem Deep.frame {K:Frag} {M M' H H':Hp} (s:NL M M'):∀ (d:D) (v:V) (A:List Addr),(∀a∈A,∀o,H a=!o->H' a=!o)->Deep K M H d v A->Deep K M' H' d v A
 |.non,_,_,_,h=>h
 |.bl _,_,_,_,h=>h
 |.int _,_,_,_,h=>h
 |.str _,_,_,_,h=>h
 |.ty _,_,_,_,h=>h
 |.adr _,_,_,_,h=>h
 |.tup ds,_,A,k,⟨a,xs,e,q,l⟩=>⟨a,xs,e,tupAt s q,DeepL.frame s ds xs A k l⟩
 |.lst ds,_,A,k,⟨a,xs,A',e,q,z,l⟩=>⟨a,xs,A',e,k a (by rw[z];exact Oo) _ q,z,DeepL.frame s ds xs A' (λb hb=>k b (by rw[z];exact Op _ hb)) l⟩
 |.obj _ _ _,_,_,_,h=>h.elim
 |.dct ks ds,_,A,k,⟨a,kvs,A',e,q,y,z,l⟩=>⟨a,kvs,A',e,k a (by rw[z];exact Oo) _ q,y,z,DeepL.frame s ds _ A' (λb hb=>k b (by rw[z];exact Op _ hb)) l⟩
theorem DeepL.frame {K:Frag} {M M' H H':Hp} (s:NL M M'):∀ (ds:Oc) (xs:List V) (A:List Addr),(∀a∈A,∀o,H a=!o->H' a=!o)->DeepL K M H ds xs A->DeepL K M' H' ds xs A
 |[],_,_,_,h=>h
 |d::ds,_,A,k,⟨x,r,A1,A2,e,z,h,l⟩=>⟨x,r,A1,A2,e,z,Deep.frame s d x A1 (λb hb=>k b (by rw[z];exact Oz _ hb)) h,DeepL.frame s ds r A2 (λb hb=>k b (by rw[z];exact OA _ hb)) l⟩
end
mutual
theorem Deep.is {K:Frag} {M M' H:Hp} (s:NL M M'):∀ (d:D) (v:V) (A:List Addr),(∀a∈A,∀o,H a=!o->M' a=!o)->Deep K M H d v A->Is K M' d v
 |.non,_,_,_,h=>h.1
 |.bl _,_,_,_,h=>h.1
 |.int _,_,_,_,h=>h.1
 |.str _,_,_,_,h=>h.1
 |.ty _,_,_,_,h=>h.1
 |.adr _,_,_,_,h=>h.1
 |.tup ds,_,A,k,⟨a,xs,e,q,l⟩=>⟨a,xs,e,J5 s q,DeepL.is s ds xs A k l⟩
 |.lst ds,_,A,k,⟨a,xs,A',e,q,z,l⟩=>⟨a,xs,e,.of (k a (by rw[z];exact Oo) _ q),DeepL.is s ds xs A' (λb hb=>k b (by rw[z];exact Op _ hb)) l⟩
 |.obj _ _ _,_,_,_,h=>h.elim
 |.dct ks ds,_,A,k,⟨a,kvs,A',e,q,y,z,l⟩=>⟨a,kvs,e,k a (by rw[z];exact Oo) _ q,y,DeepL.is s ds _ A' (λb hb=>k b (by rw[z];exact Op _ hb)) l⟩
theorem DeepL.is {K:Frag} {M M' H:Hp} (s:NL M M'):∀ (ds:Oc) (xs:List V) (A:List Addr),(∀a∈A,∀o,H a=!o->M' a=!o)->DeepL K M H ds xs A->IsL K M' ds xs
 |[],_,_,_,h=>h.1
 |d::ds,_,A,k,⟨x,r,A1,A2,e,z,h,l⟩=>⟨x,r,e,Deep.is s d x A1 (λb hb=>k b (by rw[z];exact Oz _ hb)) h,DeepL.is s ds r A2 (λb hb=>k b (by rw[z];exact OA _ hb)) l⟩
end
mutual
theorem Is.deep {K:Frag} {M H:Hp}:∀ (d:D) (v:V),lfD d=true->Is K M d v->Deep K M H d v []
 |.non,_,_,h=>⟨h,rfl⟩
 |.bl _,_,_,h=>⟨h,rfl⟩
 |.int _,_,_,h=>⟨h,rfl⟩
 |.str _,_,_,h=>⟨h,rfl⟩
 |.ty _,_,_,h=>⟨h,rfl⟩
 |.adr _,_,_,h=>⟨h,rfl⟩
 |.tup ds,_,f,⟨a,xs,e,q,l⟩=>⟨a,xs,e,.inr ⟨f,q⟩,IsL.deep ds xs f l⟩
 |.lst _,_,f,_=>by cases f
 |.obj _ _ _,_,f,_=>by cases f
 |.dct _ _,_,f,_=>by cases f
theorem IsL.deep {K:Frag} {M H:Hp}:∀ (ds:Oc) (xs:List V),lfL ds=true->IsL K M ds xs->DeepL K M H ds xs []
 |[],_,_,h=>⟨h,rfl⟩
 |d::ds,_,f,⟨x,r,e,h,l⟩=>by
  have f':(lfD d&&lfL ds)=true:=f;rw[and_eq_true]at f';exact⟨x,r,[],[],e,rfl,Is.deep d x f'.1 h,IsL.deep ds r f'.2 l⟩
end
mutual
theorem Deep.lf {K:Frag} {M H:Hp}:∀ (d:D) (v:V) (A:List Addr),lfD d=true->Deep K M H d v A->A=[]
 |.non,_,_,_,h=>h.2
 |.bl _,_,_,_,h=>h.2
 |.int _,_,_,_,h=>h.2
 |.str _,_,_,_,h=>h.2
 |.ty _,_,_,_,h=>h.2
 |.adr _,_,_,_,h=>h.2
 |.tup ds,_,A,f,⟨a,xs,e,q,l⟩=>DeepL.lf ds xs A f l
 |.lst _,_,_,f,_=>by cases f
 |.obj _ _ _,_,_,f,_=>by cases f
 |.dct _ _,_,_,f,_=>by cases f
theorem DeepL.lf {K:Frag} {M H:Hp}:∀ (ds:Oc) (xs:List V) (A:List Addr),lfL ds=true->DeepL K M H ds xs A->A=[]
 |[],_,_,_,h=>h.2
 |d::ds,_,A,f,⟨x,r,A1,A2,e,z,h,l⟩=>by
  have f':(lfD d&&lfL ds)=true:=f;rw[and_eq_true]at f';rw[z,Deep.lf d x A1 f'.1 h,DeepL.lf ds r A2 f'.2 l];rfl
end
mutual
theorem Is.nl {K:Frag} {M M':Hp} (s:NL M M'):∀ (d:D) (v:V),lfD d=true->Is K M d v->Is K M' d v
 |.non,_,_,h=>h
 |.bl _,_,_,h=>h
 |.int _,_,_,h=>h
 |.str _,_,_,h=>h
 |.ty _,_,_,h=>h
 |.adr _,_,_,h=>h
 |.tup ds,_,f,⟨a,xs,e,q,l⟩=>⟨a,xs,e,s.seqT q,IsL.nl s ds xs f l⟩
 |.lst _,_,f,_=>by cases f
 |.obj _ _ _,_,f,_=>by cases f
 |.dct _ _,_,f,_=>by cases f
theorem IsL.nl {K:Frag} {M M':Hp} (s:NL M M'):∀ (ds:Oc) (xs:List V),lfL ds=true->IsL K M ds xs->IsL K M' ds xs
 |[],_,_,h=>h
 |d::ds,_,f,⟨x,r,e,h,l⟩=>by
  have f':(lfD d&&lfL ds)=true:=f;rw[and_eq_true]at f';exact⟨x,r,e,Is.nl s d x f'.1 h,IsL.nl s ds r f'.2 l⟩
end
def  OwnC (K:Frag) (O:Oa) (H:Hp):Cat->D->V->List Addr->Prop
 |.sh,d,v,A=>A=[]/\Is K (msk O H) d v
 |.top,d,v,A=>∃a ds xs,d=.lst ds/\v=.ref a/\A=[a]/\H a=!(.lst xs)/\IsL K (msk O H) ds xs
 |.deep,d,v,A=>Deep K (msk O H) H d v A
def OwnC.frame {K} (s:Same (msk O H) (msk O' H')) (k:∀a∈A,∀o,H a=!o->H' a=!o) (h:OwnC K O H c d v A):OwnC K O' H' c d v A:=by
 cases c with
 |sh=>exact⟨h.1,Is.mono s d v h.2⟩
 |top=>
  let⟨a,ds,xs,e1,e2,e3,e4,l⟩:=h;exact⟨a,ds,xs,e1,e2,e3,k a (by rw[e3];exact Oo) _ e4,IsL.mono s ds xs l⟩
 |deep=>exact Deep.frame (NL.of s) d v A k h
def OwnC.is {K} (s:Same (msk O H) (msk O' H)) (k:∀a∈A,O' a=false) (h:OwnC K O H c d v A):Is K (msk O' H) d v:=by
 cases c with
 |sh=>exact Is.mono s d v h.2
 |top=>
  let⟨a,ds,xs,e1,e2,e3,e4,l⟩:=h;subst e1;exact⟨a,xs,e2,.of (by rw[aA (k a (by rw[e3];exact Oo))];exact e4),IsL.mono s ds xs l⟩
 |deep=>exact Deep.is (NL.of s) d v A (λa ha o e=>by rw[aA (k a ha)];exact e) h
abbrev Sl:=Cat×D
abbrev Ev:=List (Option Sl)
abbrev _root_.N2:=Option Sl
abbrev _root_.NZ:=Ev->Option (Sl×Ev)
abbrev _root_.ad:=List D->Option Sl
structure Bs where
 H:Hp
 O:Oa
structure EnvOk (K:Frag) (B:Bs) (O:Oa) (σ:St) (H:Hp) (Y:Ev):Prop where
 same:Same B.H H
 bdom:∀b,B.O b=true->B.H b≠none
 sub:∀b,B.O b=true->O b=true
 lis:∀b,O b=true->Hid (H b)
 len:σ.length=Y.length
 fp:∃F:Nat->List Addr,(∀ (i:Nat) (s:Sl),Y[i]?=!(!s)->∃v,σ[i]?=!(!v)/\OwnC K O H s.1 s.2 v (F i))/\
  (∀i,(F i).Nodup)/\(∀i j a,a∈F i->a∈F j->i=j)/\∀i a,a∈F i->O a=true/\B.H a=none
noncomputable def  noO:Oa:=λ_=>false
def qI:msk noO H=H:=by constructor<;>grind
noncomputable def  vw (Y:Ev):Vv:=Y.map λs=>s.map (·.2)
noncomputable def  Ab:N2->Oe
 |some (.sh,d)=>!d
 |some (_,d)=>if lfD d then !d else none
 |none=>none
def  shv (Y:Ev):Vv:=Y.map Ab
noncomputable def  gH (Y:Ev):Ev:=Y.map λs=>s.map λx=>(Cat.sh,x.2)
section
variable {K:Frag} {B:Bs} {O:Oa} {σ:St} {H H':Hp} {Y:Ev}
def EnvOk.dom (E:EnvOk K B O σ H Y):∀b,O b=true->H b≠none:=λb h=>(E.lis b h).ne
def EnvOk.nl (E:EnvOk K B O σ H Y):NL H (msk O H):=λb o h q=>by
 cases e:O b with
 |false=>rw[aA e];exact h
 |true=>
  have h':=E.lis b e;rw[h]at h';exact(q h').elim
def EnvOk.grow (E:EnvOk K B O σ H Y) (s:Same H H'):EnvOk K B O σ H' Y where
 same:=E.same.trans s
 bdom:=E.bdom
 sub:=E.sub
 lis:=λb h=>(E.lis b h).same s
 len:=E.len
 fp:=by
  let⟨F,h1,h2,h3,h4⟩:=E.fp;refine⟨F,λi x q=>?_,h2,h3,h4⟩;let⟨v,e,o⟩:=h1 i x q;exact⟨v,e,o.frame s.msk λa _ u hu=>s _ _ hu⟩
def EnvOk.fresh (E:EnvOk K B O σ H Y) (h:H p=none):O p=false:=fH E.dom h
def qJ {α β:Type} {f} {l:List (Option α)} {i:Nat} {y:β} (h:(l.map f)[i]?=!(!y)):∃x,l[i]?=!x/\f x=!y:=by grind
def EnvOk.view (E:EnvOk K B O σ H Y):VE K noO σ H (vw Y) where
 lis:=λb h=>by cases h
 len:=by unfold vw;rw[length_map];exact E.len
 sh:=λi d q=>by
  let⟨F,h1,h2,h3,h4⟩:=E.fp;let⟨x,e,z⟩:=qJ q;cases x with
  |none=>cases z
  |some s=>
   cases z;let⟨v,e1,o⟩:=h1 i s e;exact⟨v,e1,o.is (by rw[qI];exact msk_le) λ_ _=>rfl⟩
def EnvOk.viewS (E:EnvOk K B O σ H Y):VE K O σ H (shv Y) where
 lis:=E.lis
 len:=by unfold shv;rw[length_map];exact E.len
 sh:=λi d q=>by
  let⟨F,h1,h2,h3,h4⟩:=E.fp;let⟨x,e,z⟩:=qJ q;cases x with
  |none=>cases z
  |some s=>
   let⟨c,d'⟩:=s;let⟨v,e1,o⟩:=h1 i _ e;refine⟨v,e1,?_⟩;cases c with
   |sh=>cases z;exact o.2
   |top=>
    let⟨a,ds,xs,z1,_⟩:=o;have z':=z;rw[show d'=.lst ds from z1]at z';cases z'
   |deep=>
    let⟨f,z'⟩:=ar (z);subst z';have hA:=Deep.lf d' v (F i) f o;exact Deep.is (NL.of (Same.refl _)) d' v (F i) (λa ha=>by rw[hA]at ha;cases ha) o
def EnvOk.frozen (E:EnvOk K B O σ H Y):EnvOk K B B.O σ H (gH Y)/\Same (msk O H) (msk B.O H):=by
 have le:Same (msk O H) (msk B.O H):=λb o h=>by
  let⟨h1,h2⟩:=aJ h;rw[aA];exact h2;cases e:B.O b with
  |false=>rfl
  |true=>rw[E.sub b e]at h1;cases h1
 refine⟨⟨E.same,E.bdom,λ_ h=>h,λb h=>E.lis b (E.sub b h),by unfold gH;rw[length_map];exact E.len,λ_=>[],λi s q=>?_,λ_=>List.nodup_nil,λ_ _ _ h=>(nomatch h),λ_ _ h=>(nomatch h)⟩,le⟩;let⟨F,h1,h2,h3,h4⟩:=E.fp;let⟨x,e,z⟩:=qJ q;cases x with
 |none=>cases z
 |some s'=>
  cases z;let⟨v,e1,o⟩:=h1 i _ e;refine⟨v,e1,rfl,o.is le λa ha=>?_⟩;cases e:B.O a with
  |false=>rfl
  |true=>exact absurd (h4 i a ha).2 (E.bdom a e)
def EnvOk.viewF (E:EnvOk K B O σ H Y):VE K B.O σ H (vw Y):=by
 have h:=E.frozen.1.viewS;have e:shv (gH Y)=vw Y:=by
  unfold shv gH vw;rw[List.map_map];apply List.map_congr_left;intro x _;cases x<;>rfl
 rw[e]at h;exact h
def EnvOk.more (E:EnvOk K B O σ H Y) {c:Cat} {d:D} {v:V} {A:List Addr} {O':Oa} (s:Same H H') (le:Same (msk O H) (msk O' H')) (hO:∀b,O' b=true->O b=true\/b∈A) (hO2:∀b,O b=true->O' b=true) (hO3:∀b∈A,O' b=true)
  (hl:∀a∈A,Hid (H' a)) (nd:A.Nodup) (fr:∀a∈A,H a=none) (h:OwnC K O' H' c d v A):EnvOk K B O' (σ++[!v]) H' (Y++[!(c,d)]) where
 same:=E.same.trans s
 bdom:=E.bdom
 sub:=λb q=>hO2 b (E.sub b q)
 lis:=λb q=>by
  rcases hO b q with q|q
  .exact(E.lis b q).same s
  .exact hl b q
 len:=by rw[length_append,length_append,E.len];rfl
 fp:=by
  let⟨F,h1,h2,h3,h4⟩:=E.fp;have no:∀i a,a∈F i->a ∉ A:=λi a ha hA=>E.dom a (h4 i a ha).1 (fr a hA);refine⟨λi=>if i=Y.length then A else F i,λi x q=>?_,λi=>?_,λi j a hi hj=>?_,λi a hi=>?_⟩
  .by_cases hi:i=Y.length
   .subst hi;rw[getElem?_append_right (le_refl _)]at q;simp at q;subst q;refine⟨v,?_,by simp only[if_true];exact h⟩;rw[getElem?_append_right (Nat.le_of_eq E.len),E.len];simp
   .have hi2:i<Y.length:=by
     by_cases h:i<Y.length
     .exact h
     .rw[getElem?_append_right (!1)]at q;cases hk:i-Y.length with
      |zero=>omega
      |succ m=>rw[hk]at q;simp at q
    rw[getElem?_append_left hi2]at q;let⟨w,e,o⟩:=h1 i x q;refine⟨w,?_,?_⟩
    .rw[getElem?_append_left (by rw[E.len];exact hi2)];exact e
    .simp only[if_neg hi];exact o.frame le λa ha u hu=>s _ _ hu
  .dsimp only;split
   .exact nd
   .exact h2 i
  .dsimp only at hi hj;split at hi<;>split at hj
   .omega
   .exact absurd hi (no j a hj)
   .exact absurd hj (no i a hi)
   .exact h3 i j a hi hj
  .dsimp only at hi;split at hi
   .exact⟨hO3 a hi,E.same.free (fr a hi)⟩
   .exact⟨hO2 a (h4 i a hi).1,(h4 i a hi).2⟩
def getElem?_last {α:Type} (l:List α) (x:α):(l++[x])[l.length]?=!x:=by simp
def dS {α:Type} {l} {x} (h:i≠l.length) {y:α} (e:(l++[x])[i]?=!y):l[i]?=!y:=by grind
def EnvOk.put {v:V} {s:Sl} (E:EnvOk K B O (σ++[!v]) H (Y++[!s])) (i:Nat):EnvOk K B O (σ.set i (!v)) H (Y.set i (!s)) where
 same:=E.same
 bdom:=E.bdom
 sub:=E.sub
 lis:=E.lis
 len:=by have:=E.len;simp at this⊢;exact this
 fp:=by
  let⟨F,h1,h2,h3,h4⟩:=E.fp;have len:σ.length=Y.length:=by have:=E.len;simp at this;exact this
  let⟨v',e1,o1⟩:=h1 Y.length s (getElem?_last _ _);rw[<-len,getElem?_last]at e1;cases e1;refine⟨λj=>if j=i then F Y.length else if j=Y.length then[]else F j,λj x q=>?_,λj=>?_,λj k a hj hk=>?_,λj a hj=>?_⟩
  .rcases get_set_some q with⟨e,q'⟩|⟨e,q'⟩
   .cases q';subst e;have hi:j<σ.length:=by rw[len];exact pL q
    exact⟨v,by simp[hi],by simp only[if_true];exact o1⟩
   .have hj:j≠Y.length:=by
     have:=(On.mp q').1;omega
    let⟨w,e2,o2⟩:=h1 j x (by rw[getElem?_append_left (List.getElem?_eq_some_iff.mp q').1];exact q');refine⟨w,?_,by simp only[if_neg e,if_neg hj];exact o2⟩;rw[List.getElem?_set_ne (Ne.symm e)];exact dS (by rw[len];exact hj) e2
  .dsimp only;split
   .exact h2 _
   .split
    .exact List.nodup_nil
    .exact h2 _
  .dsimp only at hj hk;split at hj
   .split at hk
    .omega
    .split at hk
     .cases hk
     .have:=h3 _ _ a hj hk;omega
   .split at hj
    .cases hj
    .split at hk
     .have:=h3 _ _ a hj hk;omega
     .split at hk
      .cases hk
      .exact h3 _ _ a hj hk
  .dsimp only at hj;split at hj
   .exact h4 _ a hj
   .split at hj
    .cases hj
    .exact h4 _ a hj
def EnvOk.drop {v:V} {s:Sl} (E:EnvOk K B O (σ++[!v]) H (Y++[!s])):EnvOk K B O σ H Y where
 same:=E.same
 bdom:=E.bdom
 sub:=E.sub
 lis:=E.lis
 len:=by have:=E.len;simp at this;exact this
 fp:=by
  let⟨F,h1,h2,h3,h4⟩:=E.fp;have len:σ.length=Y.length:=by have:=E.len;simp at this;exact this
  refine⟨F,λj x q=>?_,h2,h3,h4⟩;have hj:=(On.mp q).1;let⟨w,e2,o2⟩:=h1 j x (by rw[getElem?_append_left hj];exact q);exact⟨w,dS (!1) e2,o2⟩
def EnvOk.setSh (E:EnvOk K B O σ H Y) (h:Is K (msk O H) d v):EnvOk K B O (σ.set i (!v)) H (Y.set i (!(.sh,d))):=
 (E.more (c:=.sh) (A:=[]) (Same.refl _) (Same.refl _) (λ_ h=>.inl h) (λ_ h=>h) (λ_ h=>(nomatch h)) (λ_ h=>(nomatch h)) List.nodup_nil (λ_ h=>(nomatch h)) ⟨rfl,h⟩).put i
end
mutual
theorem Deep.lists {K:Frag} {M H:Hp}:∀ (d:D) (v:V) (A:List Addr),Deep K M H d v A->∀a∈A,Hid (H a)
 |.non,_,_,h,_,q=>by rw[h.2]at q;cases q
 |.bl _,_,_,h,_,q=>by rw[h.2]at q;cases q
 |.int _,_,_,h,_,q=>by rw[h.2]at q;cases q
 |.str _,_,_,h,_,q=>by rw[h.2]at q;cases q
 |.ty _,_,_,h,_,q=>by rw[h.2]at q;cases q
 |.adr _,_,_,h,_,q=>by rw[h.2]at q;cases q
 |.tup ds,_,A,⟨a,xs,e,_,l⟩,b,q=>DeepL.lists ds xs A l b q
 |.lst ds,_,A,⟨a,xs,A',e,h,z,l⟩,b,q=>by
  rw[z]at q;rcases mem_cons.mp q with rfl|q
  .exact .inl ⟨xs,h⟩
  .exact DeepL.lists ds xs A' l b q
 |.obj _ _ _,_,_,h,_,_=>h.elim
 |.dct ks ds,_,A,⟨a,kvs,A',e,h,y,z,l⟩,b,q=>by
  rw[z]at q;rcases mem_cons.mp q with rfl|q
  .exact .inr (.inr ⟨kvs,h⟩)
  .exact DeepL.lists ds _ A' l b q
theorem DeepL.lists {K:Frag} {M H:Hp}:∀ (ds:Oc) (xs:List V) (A:List Addr),DeepL K M H ds xs A->∀a∈A,Hid (H a)
 |[],_,_,h,_,q=>by rw[h.2]at q;cases q
 |d::ds,_,A,⟨x,r,A1,A2,e,z,h,l⟩,b,q=>by
  rw[z]at q;rcases mem_append.mp q with q|q
  .exact Deep.lists d x A1 h b q
  .exact DeepL.lists ds r A2 l b q
end
def DeepL.len {K}:∀ {ds:Oc} {xs:List V} {A:List Addr},DeepL K M H ds xs A->ds.length=xs.length
 |[],_,_,h=>by rw[h.1];rfl
 |_::_,_,_,⟨x,r,A1,A2,e,z,h,l⟩=>by rw[e,length_cons,length_cons,DeepL.len l]
def DeepL.snoc {K} (h:Deep K M H y v A'):∀ {ds:Oc} {xs:List V} {A:List Addr},DeepL K M H ds xs A->DeepL K M H (ds++[y]) (xs++[v]) (A++A')
 |[],_,_,l=>by
  rw[l.1,l.2];exact⟨v,[],A',[],rfl,by simp,h,rfl,rfl⟩
 |d::ds,_,_,⟨x,r,A1,A2,e,z,q,l⟩=>by
  rw[e,z];exact⟨x,r++[v],A1,A2++A',rfl,by rw[List.append_assoc],q,DeepL.snoc h l⟩
def  PU (X:Cx) (e:Expr) (t:TE):Prop:=PE X e t/\∀ (i:Nat) (x:Str) (px spos:Pos),X.N.Nodup->X.N[i]?=!x->X.env.scope.names.lookup x=some .local->
 swapsWith e (!(!18)) spos.line X.env=pure true->PS X (.Assign [.Name x px] e spos) (y8 t (so i))
def PU.imp (h:PU X e t) (k:∀σ H Q,t' σ H Q->t σ H Q):PU X e t':=
 ⟨h.1.imp k,λi x px spos a b c d=>(h.2 i x px spos a b c d).imp λEn σ H q=>k σ H _ q⟩
def PE.by2 (h1:PE X e t1) (h2:PE X e t2) (k:∀σ H Q,t σ H Q->t1 σ H Q\/t2 σ H Q):PE X e t:=λpins s σ H Q I q=>(k σ H Q q).elim (h1 pins s σ H Q I) (h2 pins s σ H Q I)
def PS.by2 (h1:PS X e t1) (h2:PS X e t2) (k:∀En σ H,t En σ H->t1 En σ H\/t2 En σ H):PS X e t:=λpins s σ H Q I q=>(k Q σ H q).elim (h1 pins s σ H Q I) (h2 pins s σ H Q I)
def PU.by2 (h1:PU X e t1) (h2:PU X e t2) (k:∀σ H Q,t σ H Q->t1 σ H Q\/t2 σ H Q):PU X e t:=
 ⟨h1.1.by2 h2.1 k,λi x px spos a b c d=>(h1.2 i x px spos a b c d).by2 (h2.2 i x px spos a b c d) λEn σ H q=>k σ H _ q⟩
def PU.ex {ι:Type} {t:ι->TE} (h:∀z,PU X e (t z)):PU X e (λσ H Q=>∃z,t z σ H Q):=
 ⟨PE.ex λz=>(h z).1,λi x px spos a b c d pins s σ H D I ⟨z,q⟩=>(h z).2 i x px spos a b c d pins s σ H D I q⟩
noncomputable def  gI:Expr->Bool
 |.ListComp _ _ _ _=>true
 |.SetComp _ _ _ _=>true
 |.DictComp _ _ _ _ _=>true
 |_=>false
def mT (h:gI e=false) (t:Option Expr) (l:Nat) (env:Env):swapsWith e t l env=pure false:=by
 cases e<;>first|rfl|cases h
def PE.pu (h:PE X e t) (hc:gI e=false):PU X e t:=⟨h,λi x px spos _ _ _ q=>by
 rw[mT hc]at q;have q':=q;cases q'⟩
def wu (hc:X.calm=true) (S:CSc X scope ks) (hi:PI X tg iter wi) (hg:∀C s H fp,PG (!11) tg g) (htt:∀C s H fp,PTs (!11) ifs tt) (he:∀C s H fp,PE (!11) elt te) (hs:∀x,foldedSetIterable iter X.env x=pure x):PU X (!9) (sC wi ks g tt te):=
 ⟨C0 hc S hi hg htt he hs,λi x px spos hN hx hl hsw=>C3 hN hx hl hc S hi hg htt he hsw hs⟩
def  tFr (K:Frag) (Y:Vv) (o:Oe):TE:=λσ H Q=>VE K noO σ H Y/\∃d,o=!d/\∀v H' A,Same H H'->Deep K H' H' d v A->A.Nodup->(∀a∈A,H a=none)->Q v H'
def  Mz (K:Frag) (Y:Vv) (o:N3):TA:=λσ H Q=>VE K noO σ H Y/\∃ds,o=!ds/\∀vs H' A,Same H H'->DeepL K H' H' ds vs A->A.Nodup->(∀a∈A,H a=none)->Q vs H'
def  PFr (X:Cx) (e:Expr) (f:wp):Prop:=∀Y,PU X e (tFr X.K Y (f Y))
def  uP (X:Cx) (es:Od) (f:dl):Prop:=∀Y,PA X es (Mz X.K Y (f Y))
def  PPu (X:Cx) (e:Expr) (f:wp):Prop:=∀O Y,PU X e (tP X.K O Y (f Y))
def  PFu (X:Cx) (e:Expr) (f:dl):Prop:=∀O Y,PU X e (tPF X.K O Y (f Y))
section
variable {X:Cx} {e:Expr} {es:Od} {pos:Pos}
noncomputable def  lfO (o:Oe):Oe:=o.bind λd=>if lfD d then !d else none
noncomputable def  fJ (o:N3):Oe:=o.bind λds=>if lfL ds then !(.lst ds)else none
def GJ {K} (h:tFr K Y (lfO o) σ H Q):tP K noO Y o σ H Q:=by
 let⟨E,d,e,k⟩:=h;let⟨d',e1,e2⟩:=OH e;let⟨f,e3⟩:=ar e2;subst e3;refine⟨E,d',e1,λv H' s i=>k v H' [] s ?_ List.nodup_nil λ_ q=>(nomatch q)⟩;exact Is.deep d' v f i
def Dr {K} (h:tFr K Y (fJ o) σ H Q):tPF K noO Y o σ H Q:=by
 let⟨E,d,e,k⟩:=h;let⟨ds,e1,e2⟩:=OH e;let⟨f,e3⟩:=ar e2;subst e3;refine⟨E,ds,e1,λp xs H' s hp l=>?_⟩;refine k _ _ [p] (s.trans (Same.new hp)) ⟨p,xs,[],rfl,ai,rfl,?_⟩ (by simp) λa ha=>?_
 .exact DeepL.frame (NL.of (Same.new hp)) ds xs [] (λ_ q=>(nomatch q)) (IsL.deep (H:=H') ds xs f l)
 .rw[mem_singleton.mp ha];exact s.free hp
def J6 (h:PPu X e f):PFr X e (λY=>lfO (f Y)):=λY=>(h noO Y).imp λσ H Q q=>GJ q
def Ac (h:PFu X e f):PFr X e (λY=>fJ (f Y)):=λY=>(h noO Y).imp λσ H Q q=>Dr q
noncomputable def  orO {α β:Type} (f g:α->Option β):α->Option β:=λx=>match f x with|some y=>!y|none=>g x
def or_some {x:α} {y:β} (h:orO f g x=!y):f x=!y\/g x=!y:=by grind [orO]
def Fk (h1:PFr X e f) (h2:PFr X e g):PFr X e (orO f g):=λY=>(h1 Y).by2 (h2 Y) λσ H Q ⟨E,d,q,k⟩=>by
 rcases or_some q with q|q;all_goals grind
def sN:PFr X e (λ_=>none):=λY=>⟨λ_ _ _ _ _ _ ⟨_,_,q,_⟩=>(by cases q),λ_ _ _ _ _ _ _ _ _ _ _ _ _ _ ⟨_,_,q,_⟩=>(by cases q)⟩
def qK:PPu X e (λ_=>none):=λO Y=>⟨λ_ _ _ _ _ _ ⟨_,_,q,_⟩=>(by cases q),λ_ _ _ _ _ _ _ _ _ _ _ _ _ _ ⟨_,_,q,_⟩=>(by cases q)⟩
def cG:PFu X e (λ_=>none):=λO Y=>⟨λ_ _ _ _ _ _ ⟨_,_,q,_⟩=>(by cases q),λ_ _ _ _ _ _ _ _ _ _ _ _ _ _ ⟨_,_,q,_⟩=>(by cases q)⟩
def uQ (h1:PPu X e f) (h2:PPu X e g):PPu X e (orO f g):=λO Y=>(h1 O Y).by2 (h2 O Y) λσ H Q ⟨E,d,q,k⟩=>by
 rcases or_some q with q|q;all_goals grind
def Ds:uP X [] (λ_=>![]):=λY=>pa_nil.imp λσ H Q ⟨E,ds,e,k⟩=>by
 cases e;exact k [] H [] (Same.refl _) ⟨rfl,rfl⟩ List.nodup_nil λ_ q=>(nomatch q)
def Deep.have {K} (h:Deep K M H d v A) (q:a∈A):H a≠none:=by
 exact(Deep.lists d v A h a q).ne
def frs_cons (h:PFr X e f) (hr:uP X es g) (hs:starEach (e::es) X.env=(false,eval e X.env)::starEach es X.env):uP X (e::es) (ab f g):=
 λY=>(bq (h Y).1 (hr Y) hs).imp λσ H Q ⟨E,ds,q,k⟩=>by
 let⟨d,e1,q⟩:=OH q
 let⟨r,e2,q⟩:=OH q
 cases q
 refine⟨E,d,e1,λv H1 A1 s1 i1 n1 f1=>⟨E.grow s1,r,e2,λvs H2 A2 s2 i2 n2 f2=>k _ H2 _ (s1.trans s2) ⟨v,vs,A1,A2,rfl,rfl,Deep.frame (NL.of s2) d v A1 (λa _ o h=>s2 _ _ h) i1,i2⟩ ?_ ?_⟩⟩
 .refine List.nodup_append.mpr ⟨n1,n2,λa ha b hb z=>?_⟩;subst z;exact i1.have ha (f2 a hb)
 .intro a ha;rcases mem_append.mp ha with ha|ha
  .exact f1 a ha
  .exact s1.free (f2 a ha)
def GK (h:uP X es g):PFr X (.List es pos) (λY=>(bx (g Y)).bind λds=>!(.lst ds)):=λY=>PE.pu ((zm (h Y)).imp λσ H Q ⟨E,d,q,k⟩=>by
 let⟨ds,z,q2⟩:=OH q;cases q2;let⟨e1,e2⟩:=cF z;refine⟨E,ds,e1,λvs H1 A s1 l n f=>⟨by rw[<-l.len];exact OC e2,λp hp=>?_⟩⟩;have hpA:p ∉ A:=λz=>by
  exact(DeepL.lists ds vs A l p z).ne (hp)
 refine k _ _ _ (s1.trans (Same.new hp)) ⟨p,vs,A,rfl,ai,rfl,DeepL.frame (NL.of (Same.new hp)) ds vs A (λa _ o h=>Same.new hp _ _ h) l⟩ (List.nodup_cons.mpr ⟨hpA,n⟩) λa ha=>?_;rcases mem_cons.mp ha with rfl|ha
 .exact s1.free hp
 .exact f a ha) rfl
def GL {x1} (h:uP X es g):PFr X (.Tuple es x1 pos) (λY=>(bx (g Y)).bind λds=>!(.tup ds)):=λY=>PE.pu ((uD (h Y)).imp λσ H Q ⟨E,d,q,k⟩=>by
 let⟨ds,z,q2⟩:=OH q;cases q2;let⟨e1,e2⟩:=cF z;refine⟨E,ds,e1,λvs H1 A s1 l n f=>⟨by rw[<-l.len];exact OC e2,λp hp=>?_⟩⟩;exact k _ _ A (s1.trans (Same.new hp)) ⟨p,vs,rfl,.inl ai,DeepL.frame (NL.of (Same.new hp)) ds vs A (λa _ o h=>Same.new hp _ _ h) l⟩ n f) rfl
abbrev xFr (K:Frag) (f:wp):TE:=λσ H Q=>∃z:Vv,tFr K z (f z) σ H Q
def uR {K} (h:tFr K Y ((ah ks fi g ft fe Y).bind λds=>!(.lst ds)) σ H Q):
  sC (tJ K noO Y (fi Y)) ks (xG K ks g) (xT K ft) (xFr K fe) σ H Q:=by
 let⟨E,d,ee,k⟩:=h
 let⟨tot,ef,ed⟩:=OH ee
 cases ed
 let⟨ds,e1,e⟩:=OH ef
 let⟨e2,hz⟩:=cF e
 refine⟨E,ds,e1,λJ H1 s1 it=>⟨λi m ys H2=>i<=ds.length/\m=ds.length-i/\Same H1 H2/\∃rs rest A,DeepL K H2 H2 rs ys A/\A.Nodup/\(∀a∈A,H a=none)/\iM _ (ds.drop i)=!rest/\tot=rs++rest,
  ⟨ds.length,Nat.zero_le _,by simp,Same.refl _,[],tot,[],⟨rfl,rfl⟩,List.nodup_nil,λ_ q=>(nomatch q),by simpa using e2,rfl⟩,?_⟩⟩
 rintro i m ys H2 ⟨hi,rfl,s2,rs,rest,A,il,nd,fr,er,et⟩
 have E2:=E.grow (s1.trans s2)
 have hit:=it i H2 noO s2.msk E2.dom
 have hlen:ys.length<sizeLine:=by
  rw[<-il.len];have:rs.length<=tot.length:=by rw[et,length_append];omega
  omega
 by_cases hlt:i<ds.length
 .refine .inr ?_;have hd:=getElem?_eq_getElem hlt;let⟨go,yl⟩:=hit.1 _ hd;refine⟨go,hlen,λx H3 hy=>?_⟩;let⟨s3,ix⟩:=yl x H3 hy;rw[List.drop_eq_getElem_cons hlt]at er;let⟨o,eo,er⟩:=OH (er);let⟨rest',er',er⟩:=OH er;let⟨Y1,g1,eo⟩:=OH eo;let⟨c,c1,eo⟩:=OH eo;refine⟨⟨noO,eW ks Y,ds[i]⟩,(E2.grow s3).wiped ks,ix,Y1,g1,λσ4 E4 l4 k4=>⟨⟨l4,λj w hw=>?_⟩,⟨noO,Y1⟩,E4,c,c1,λH5 s5=>?_⟩⟩
  .exact k4 j w (wipe_iff.mp hw).2 hw
  .have hm:ds.length-(i+1)<ds.length-i:=by omega
   cases c with
   |true=>
    refine Gi ?_;let⟨y,y1,eo⟩:=OH eo;cases eo;refine⟨Y1,E4.grow s5,y,y1,λv H6 A' s6 iv nv fv=>⟨_,hm,hlt,rfl,s2.trans (s3.trans (s5.trans s6)),rs++[y],rest',A++A',?_,?_,?_,er',?_⟩⟩
    .have s36:=s3.trans (s5.trans s6);have il':=DeepL.frame (NL.of s36) rs ys A (λa _ o h=>s36 _ _ h) il;exact DeepL.snoc iv il'
    .refine List.nodup_append.mpr ⟨nd,nv,λa ha b hb z=>?_⟩;subst z;exact((DeepL.lists rs ys A il a ha).same (s3.trans s5)).ne (fv a hb)
    .intro a ha;rcases mem_append.mp ha with ha|ha
     .exact fr a ha
     .exact(s1.trans (s2.trans (s3.trans s5))).free (fv a ha)
    .rw[et,<-Option.some.inj er,List.append_assoc];rfl
   |false=>
    refine Gh ?_;cases eo;have s35:=s3.trans s5;refine⟨_,hm,hlt,rfl,s2.trans s35,rs,rest',A,DeepL.frame (NL.of s35) rs ys A (λa _ o h=>s35 _ _ h) il,nd,fr,er',?_⟩;rw[et,<-Option.some.inj er]
 .have hie:i=ds.length:=by omega
  subst hie;refine .inl ⟨hit.2 (OF _),OC hlen,λp hp=>?_⟩;rw[List.drop_of_length_le (le_refl _)]at er;cases er;rw[List.append_nil]at et;subst et;have hpA:p ∉ A:=λz=>by
   exact(DeepL.lists tot ys A il p z).ne (hp)
  refine k _ _ _ (s1.trans (s2.trans (Same.new hp))) ⟨p,ys,A,rfl,ai,rfl,DeepL.frame (NL.of (Same.new hp)) tot ys A (λa _ o h=>Same.new hp _ _ h) il⟩ (List.nodup_cons.mpr ⟨hpA,nd⟩) λa ha=>?_;rcases mem_cons.mp ha with rfl|ha
  .exact(s1.trans s2).free hp
  .exact fr a ha
end
def  tEv (K:Frag) (B:Bs) (O:Oa) (Y:Ev) (o:Option (Sl×Ev)):TE:=λσ H Q=>EnvOk K B O σ H Y/\∃s Y',o=!(s,Y')/\∀v H' O',Same (msk O H) (msk O' H')->EnvOk K B O' (σ++[!v]) H' (Y'++[!s])->Q v H'
def  PEv (X:Cx) (e:Expr) (g:NZ):Prop:=∀B O Y,PU X e (tEv X.K B O Y (g Y))
section
variable {X:Cx} {e:Expr}
def  i8 (f:wp):NZ:=λY=>(f (vw Y)).bind λd=>!((.deep,d),Y)
def  pR (f:dl):NZ:=λY=>(f (shv Y)).bind λds=>!((.top,.lst ds),Y)
def  xY (f:wp):NZ:=λY=>(f (shv Y)).bind λd=>!((.sh,d),Y)
def  Dt (f:wp):NZ:=λY=>(f (vw Y)).bind λd=>!((.sh,d),gH Y)
def Fl (h:PFr X e f):PEv X e (i8 f):=λB O Y=>(h (vw Y)).imp λσ H Q ⟨E,s,Y',q,k⟩=>by
 let⟨d,q1,q2⟩:=OH q;cases q2;refine⟨E.view,d,q1,λv H' A s i n f=>?_⟩;have hl:=Deep.lists d v A i;have hO:∀b,(O b||decide (b∈A))=true->Hid (H' b):=λb hb=>by
  rcases(Bool.or_eq_true _ _).mp hb with hb|hb
  .exact(E.lis b hb).same s
  .exact hl b (Oq hb)
 have le:Same (msk O H) (msk (λb=>O b||decide (b∈A)) H'):=λb o q=>by
  let⟨q1,q2⟩:=aJ q;have hb:b ∉ A:=λz=>by rw[f b z]at q2;cases q2
  rw[aA (by simp[q1,hb])];exact s _ _ q2
 refine k v H' _ le (E.more s le (λb hb=>?_) (λb hb=>by simp[hb]) (λb hb=>by simp[hb]) hl n f ?_)
 .rcases(Bool.or_eq_true _ _).mp hb with hb|hb
  .exact .inl hb
  .exact .inr (Oq hb)
 .refine Deep.frame (λb o hb hn=>?_) d v A (λa _ o h=>h) i;cases z:(O b||decide (b∈A))with
  |false=>rw[aA z];exact hb
  |true=>
   have e:=hO b z;rw[hb]at e;exact(hn e).elim
def Ad (h:PFu X e f):PEv X e (pR f):=λB O Y=>(h O _).imp λσ H Q ⟨E,s,Y',q,k⟩=>by
 let⟨ds,q1,q2⟩:=OH q;cases q2;refine⟨E.viewS,ds,q1,λp xs H' s hp l=>?_⟩;have le:Same (msk O H') (msk (λb=>O b||decide (b=p)) (upd H' p (.lst xs))):=λb o q=>by
  let⟨q1,q2⟩:=aJ q;have hb:=ak q2 hp;rw[aA (by simp[q1,hb]),ae hb];exact q2
 refine k _ _ _ (s.msk.trans le) ((E.grow s).more (Same.new hp) le (λb hb=>?_) (λb hb=>by simp[hb]) (λb hb=>by simp[mem_singleton.mp hb]) (λa ha=>?_) (by simp) (λa ha=>by rw[mem_singleton.mp ha];exact hp) ⟨p,ds,xs,rfl,rfl,rfl,ai,IsL.mono le ds xs l⟩)
 .rcases(Bool.or_eq_true _ _).mp hb with hb|hb
  .exact .inl hb
  .exact .inr (by simp[of_decide_eq_true hb])
 .rw[mem_singleton.mp ha];exact .inl ⟨xs,ai⟩
def EnvOk.moreSh {K} (E:EnvOk K B O σ H Y) (h:Is K (msk O H) d v):EnvOk K B O (σ++[!v]) H (Y++[!(.sh,d)]):=
 E.more (A:=[]) (Same.refl _) (Same.refl _) (λ_ h=>.inl h) (λ_ h=>h) (λ_ h=>(nomatch h)) (λ_ h=>(nomatch h)) List.nodup_nil (λ_ h=>(nomatch h)) ⟨rfl,h⟩
def Fm (h:PPu X e f):PEv X e (xY f):=λB O Y=>(h O _).imp λσ H Q ⟨E,s,Y',q,k⟩=>by
 let⟨d,q1,q2⟩:=OH q;cases q2;exact⟨E.viewS,d,q1,λv H' s i=>k v H' O s.msk ((E.grow s).moreSh i)⟩
def J7 (h:PPu X e f):PEv X e (Dt f):=λB O Y=>(h B.O (vw Y)).imp λσ H Q ⟨E,s,Y',q,k⟩=>by
 let⟨d,q1,q2⟩:=OH q;cases q2;let⟨E',le⟩:=E.frozen;exact⟨E.viewF,d,q1,λv H' s i=>k v H' B.O (le.trans s.msk) ((E'.grow s).moreSh i)⟩
def wv (h1:PEv X e f) (h2:PEv X e g):PEv X e (orO f g):=λB O Y=>(h1 B O Y).by2 (h2 B O Y) λσ H Q ⟨E,s,Y',q,k⟩=>by
 rcases or_some q with q|q;all_goals grind
end
inductive Out where
 |nx (Y:Ev)
 |rt (s:Sl)
 |bk (Y:Ev)
 |ct (Y:Ev)
abbrev _root_.Cl:=Ev->Option Out
def  RetOk (K:Frag) (B:Bs) (H':Hp) (s:Sl) (v:V):Prop:=∃ (O':Oa) (A:List Addr),Same B.H H'/\(∀b,B.O b=true->O' b=true)/\(∀b,O' b=true->Hid (H' b))/\A.Nodup/\(∀a∈A,O' a=true/\B.H a=none)/\OwnC K O' H' s.1 s.2 v A
def  post (K:Frag) (B:Bs) (O:Oa) (H:Hp) (En:Ends):Out->Prop
 |.nx Y=>∀σ' H' O',Same (msk O H) (msk O' H')->EnvOk K B O' σ' H' Y->En.nx σ' H'
 |.bk Y=>∀σ' H' O',Same (msk O H) (msk O' H')->EnvOk K B O' σ' H' Y->En.bk σ' H'
 |.ct Y=>∀σ' H' O',Same (msk O H) (msk O' H')->EnvOk K B O' σ' H' Y->En.ct σ' H'
 |.rt s=>∀v H',RetOk K B H' s v->En.rt v H'
def post.mono {K} (s:Same (msk O H) (msk O1 H1)):∀ {o:Out},post K B O H En o->post K B O1 H1 En o
 |.nx _,h=>λσ' H' O' s' E=>h σ' H' O' (s.trans s') E
 |.bk _,h=>λσ' H' O' s' E=>h σ' H' O' (s.trans s') E
 |.ct _,h=>λσ' H' O' s' E=>h σ' H' O' (s.trans s') E
 |.rt _,h=>h
def  tS (K:Frag) (B:Bs) (O:Oa) (Y:Ev) (o:Option Out):TS:=λEn σ H=>EnvOk K B O σ H Y/\∃out,o=!out/\post K B O H En out
def  PR (X:Cx) (st:Stmt) (F:Cl):Prop:=∀B O Y,PS X st (tS X.K B O Y (F Y))
def  PRs (X:Cx) (st:List Stmt) (F:Cl):Prop:=∀B O Y,PSs X st (tS X.K B O Y (F Y))
section
variable {X:Cx} {st:Stmt} {rest:List Stmt} {e tg iter:Expr} {pos:Pos}
def Ae:PRs X [] (λY=>!(.nx Y)):=λB O Y=>pss_nil.imp λEn σ H ⟨E,o,q,k⟩=>by
 cases q;exact k σ H O (Same.refl _) E
noncomputable def  ac (F G:Cl):Cl:=λY=>(F Y).bind λo=>match o with|.nx Y'=>G Y'|o=>!o
def ww (h1:PR X st F) (h2:PRs X rest G):PRs X (st::rest) (ac F G):=λB O Y=>
 (jh (h1 B O Y) (PSs.ex λz:(Oa)×Ev=>h2 B z.1 z.2)).imp λEn σ H ⟨E,o,q,k⟩=>by
 let⟨o1,q1,q2⟩:=OH q;refine⟨E,o1,q1,?_⟩;cases o1 with
 |nx Y'=>exactλσ' H' O' s' E'=>⟨⟨O',Y'⟩,E',o,q2,k.mono s'⟩
 |rt d=>cases q2;exact k
 |bk Y'=>cases q2;exact k
 |ct Y'=>cases q2;exact k
def Af:PRs X rest (λ_=>none):=λB O Y=>pss_never.imp λEn σ H ⟨E,o,q,k⟩=>by cases q
def Ag:PR X st (λ_=>none):=λB O Y=>ps_never.imp λEn σ H ⟨E,o,q,k⟩=>by cases q
def Du:PR X (.Pass pos) (λY=>!(.nx Y)):=λB O Y=>ps_pass.imp λEn σ H ⟨E,o,q,k⟩=>by
 cases q;exact k σ H O (Same.refl _) E
def GM:PR X (.Expr (.Constant (.str x) j pos) pos') (λY=>!(.nx Y)):=λB O Y=>ps_doc.imp λEn σ H ⟨E,o,q,k⟩=>by
 cases q;exact k σ H O (Same.refl _) E
noncomputable def  bW (g:NZ):Cl:=λY=>(g Y).bind λz=>!(.rt z.1)
def EnvOk.ret {K} (E:EnvOk K B O σ H Y) {i:Nat} (h:Y[i]?=!(!s)) (hv:σ[i]?=!(!v)):RetOk K B H s v:=by
 let⟨F,h1,h2,h3,h4⟩:=E.fp;let⟨v',e,o⟩:=h1 i s h;rw[hv]at e;cases e;exact⟨O,F i,E.same,E.sub,E.lis,h2 i,h4 i,o⟩
def uS (h:PEv X e g):PR X (.Return (!e) pos) (bW g):=λB O Y=>(ut (h B O Y).1).imp λEn σ H ⟨E,o,q,k⟩=>by
 let⟨⟨s,Y'⟩,q1,q2⟩:=OH q;cases q2;refine⟨E,s,Y',q1,λv H' O' s' E'=>k v H' ?_⟩;have len:σ.length=Y'.length:=by have:=E'.len;simp at this;exact this
 exact E'.ret (getElem?_last _ _) (by rw[<-len];exact getElem?_last _ _)
def Dv:PR X (.Return none pos) (λ_=>!(.rt (.deep,.non))):=λB O Y=>ps_retN.imp λEn σ H ⟨E,o,q,k⟩=>by
 cases q;exact k .non H ⟨O,[],E.same,E.sub,E.lis,List.nodup_nil,λ_ h=>(nomatch h),rfl,rfl⟩
noncomputable def  eB (Y:Ev) (i:Nat):N2:=match Y[i]? with
 |some (!s)=>!s
 |_=>none
def bY (h:eB Y i=!s):Y[i]?=!(!s):=by
 unfold eB at h;grind
def uT (i:Nat) (hN:X.N[i]?=!x) (hv:Vis X.env.scope x) (hd:(!7)=false) (hcd:(!12)=false):PR X (.Return (!(!18)) pos) (λY=>(eB Y i).bind λs=>!(.rt s)):=λB O Y=>(ut (bT hN hv hd hcd)).imp λEn σ H ⟨E,o,q,k⟩=>by
 let⟨s,q1,q2⟩:=OH q;cases q2;let⟨F,h1,h2,h3,h4⟩:=E.fp;let⟨v,e,o⟩:=h1 i s (bY q1);exact⟨v,e,k v H (E.ret (bY q1) e)⟩
noncomputable def  ao (i:Nat) (g:NZ):Cl:=λY=>(g Y).bind λz=>!(.nx (z.2.set i (!z.1)))
def wx {K} (h:tS K B O Y (ao i g Y) En σ H):y8 (tEv K B O Y (g Y)) (so i) En σ H:=by
 let⟨E,o,q,k⟩:=h;let⟨⟨s,Y'⟩,q1,q2⟩:=OH q;cases q2;exact⟨E,s,Y',q1,λv H' O' s' E'=>k _ H' O' s' (E'.put i)⟩
def GN (hN:X.N.Nodup) (hi:X.N[i]?=!x) (hx:Loc X.env.scope x) (h:PEv X e g) (hf:X.fn x=true\/X.env.scope.names.lookup x=some .local) (hs:swapsWith e (!(.Name x pos')) pos.line X.env=pure false\/(swapsWith e (!(.Name x pos')) pos.line X.env=pure true/\X.env.scope.names.lookup x=some .local)):PR X (.Assign [.Name x pos'] e pos) (ao i g):=λB O Y=>by
 rcases hs with hs|⟨hs,hl⟩
 .exact(F4 hN hi hx (h B O Y).1 hs hf).imp λEn σ H h=>wx h
 .exact((h B O Y).2 i x pos' pos hN hi hl hs).imp λEn σ H h=>wx h
def  lj (f:wp):Cl:=λY=>(f (vw Y)).bind λ_=>!(.nx Y)
def Dw (h:PP X e f) (hs:swapsWith e none pos.line X.env=pure false):PR X (.Expr e pos) (lj f):=λB O Y=>(eF (h noO (vw Y)) hs).imp λEn σ H ⟨E,o,q,k⟩=>by
 let⟨d,q1,q2⟩:=OH q;cases q2;exact⟨E.view,d,q1,λv H' s' iv=>k σ H' O s'.msk (E.grow s')⟩
def  ifS (fc:Fr) (F G:Cl):Cl:=λY=>(fc (vw Y)).bind λc=>if c=true then F Y else G Y
def J8 (hc:PQ X c fc) (ha:PRs X a F) (hb:PRs X b G):PR X (.If c a b pos) (ifS fc F G):=λB O Y=>(Ji (hc noO (vw Y)) (ha B O Y) (hb B O Y)).imp λEn σ H ⟨E,o,q,k⟩=>by
 let⟨c,q1,q2⟩:=OH q;refine⟨E.view,c,q1,λH' s'=>?_⟩;cases c with
 |true=>rw[if_pos rfl]at q2;exact Gi ⟨E.grow s',o,q2,k.mono s'.msk⟩
 |false=>rw[if_neg Bool.false_ne_true]at q2;exact Gh ⟨E.grow s',o,q2,k.mono s'.msk⟩
end
def  tGE (K:Frag) (B:Bs) (O:Oa) (Y:Ev) (d:D) (o:Option Ev):TG:=λv σ H Q=>EnvOk K B O σ H Y/\Is K (msk O H) d v/\∃Y',o=!Y'/\∀σ',EnvOk K B O σ' H Y'->Q σ' H
def  PGE (X:Cx) (tg:Expr) (g:D->Ev->Option Ev):Prop:=∀B O Y d,PG X tg (tGE X.K B O Y d (g d Y))
def  MA (K:Frag) (B:Bs) (O:Oa) (Y:Ev) (ds:Oc) (o:Option Ev):TGs:=λvs σ H Q=>EnvOk K B O σ H Y/\IsL K (msk O H) ds vs/\∃Y',o=!Y'/\∀σ',EnvOk K B O σ' H Y'->Q σ' H
def  xZ (X:Cx) (ts:Od) (g:Oc->Ev->Option Ev):Prop:=∀B O Y ds,PGs X ts (MA X.K B O Y ds (g ds Y))
noncomputable def  eNm (i:Nat):D->Ev->Option Ev:=λd Y=>!(Y.set i (!(.sh,d)))
noncomputable def  gJ:Oc->Ev->Option Ev:=λds Y=>match ds with|[]=>!Y|_=>none
noncomputable def  aL (g:D->Ev->Option Ev) (gs:Oc->Ev->Option Ev):Oc->Ev->Option Ev:=λds Y=>match ds with|d::r=>(g d Y).bind λY1=>gs r Y1|_=>none
noncomputable def  eTp (n:Nat) (gs:Oc->Ev->Option Ev):D->Ev->Option Ev:=λd Y=>match d with|.tup ds=>if ds.length=n then gs ds Y else none|_=>none
section
variable {X:Cx} {e tg iter:Expr} {pos:Pos}
def Dx (hN:X.N.Nodup) (hi:X.N[i]?=!x) (hx:Loc X.env.scope x) (hf:X.fn x=true\/X.env.scope.names.lookup x=some .local):PGE X (.Name x pos) (eNm i):=
 λB O Y d=>(vW hN hi hx hf).imp λv σ H Q ⟨E,iv,Y',e,k⟩=>by
 cases e
 exact k _ (E.setSh iv)
def Dy:xZ X [] gJ:=λB O Y ds=>pgs_nil.imp λvs σ H Q ⟨E,il,Y',e,k⟩=>by
 cases ds with
 |nil=>cases e;exact⟨il,k σ E⟩
 |cons _ _=>cases e
def gse_cons (h1:PGE X e g) (h2:xZ X ts gs) (hs:(assignEach (e::ts) X.env).map (·.2)=assign e X.env::(assignEach ts X.env).map (·.2)):xZ X (e::ts) (aL g gs):=λB O Y ds=>by
 cases ds with
 |nil=>exactλpins s σ H vs us Q I r ⟨_,_,Y',e,_⟩=>by cases e
 |cons d r=>
  refine(sr (h1 B O Y d) (PGs.ex λz:Ev=>h2 B O z r) hs).imp λvs σ H Q ⟨E,⟨x,xr,z,ix,il⟩,Y',e,k⟩=>?_;let⟨Y1,e1,e2⟩:=OH (e);exact⟨x,xr,z,E,ix,Y1,e1,λσ1 E1=>⟨Y1,E1,il,Y',e2,λσ2 E2=>k σ2 E2⟩⟩
def GO (hc:X.calm=true) (h:xZ X ts gs) (hn:(assignEach ts X.env).length=n) (hst:(assignEach ts X.env).findIdx? (·.1)=none):PGE X (.Tuple ts k pos) (eTp n gs):=λB O Y d=>by
 refine(y6 hc (PGs.ex λz:Oc=>h B O Y z) hn hst).imp λv σ H Q ⟨E,iv,Y',e,k⟩=>?_;cases d with
 |tup ds=>
  let⟨a,xs,rfl,t,il⟩:=iv;have e':(if ds.length=n then gs ds Y else none)=!Y':=e;split at e'
  .exact⟨a,xs,rfl,msk_le.seqT t,by rw[<-il.len];assumption,ds,E,il,Y',e',k⟩
  .cases e'
 |_=>cases e
noncomputable def  b8 (step:D->Cl):Oc->Cl
 |[],Y=>!(.nx Y)
 |d::ds,Y=>(step d Y).bind λo=>match o with
  |.nx Y'=>b8 step ds Y'
  |.ct Y'=>b8 step ds Y'
  |.bk Y'=>!(.nx Y')
  |.rt v=>!(.rt v)
noncomputable def  iF (g:D->Ev->Option Ev) (F:Cl):D->Cl:=λd Y=>(g d Y).bind F
def  c6 (fi:dl) (g:D->Ev->Option Ev) (F:Cl):Cl:=λY=>(fi (shv Y)).bind λds=>b8 (iF g F) ds Y
def  uU (fi:dl) (g:D->Ev->Option Ev) (F:Cl):Cl:=λY=>(fi (vw Y)).bind λds=>b8 (iF g F) ds (gH Y)
def wy {K} (E:EnvOk K B O σ H Y) (V:VE K O σ H Yv) (q:(o.bind λds=>b8 (iF g F) ds Y)=!out) (k:post K B O H En out):
  Jm (tJ K O Yv o) (λv σ H Q=>∃z:(Oa)×Ev×D,tGE K B z.1 z.2.1 z.2.2 (g z.2.2 z.2.1) v σ H Q) (λEn σ H=>∃z:(Oa)×Ev,tS K B z.1 z.2 (F z.2) En σ H) En σ H:=by
 let⟨ds,q1,q⟩:=OH q
 refine⟨V,ds,q1,λJ H1 s1 it=>⟨λi m σ' H'=>i<=ds.length/\m=ds.length-i/\∃O' Y',Same _ (msk O' H')/\EnvOk K B O' σ' H' Y'/\b8 _ (ds.drop i) Y'=!out,
  ⟨ds.length,Nat.zero_le _,by simp,O,Y,Same.refl _,E.grow s1,by simpa using q⟩,?_⟩⟩
 rintro i m σ2 H2 ⟨hi,rfl,O2,Y2,s2,E2,e2⟩
 have hit:=it i H2 O2 s2 E2.dom
 by_cases hlt:i<ds.length
 .refine .inr ?_;have hd:=getElem?_eq_getElem hlt;let⟨go,yl⟩:=hit.1 _ hd;refine⟨go,λσ' H'=>i+1<=ds.length/\∃O' Y',Same _ _/\EnvOk K B O' σ' H' Y'/\b8 _ _ Y'=!out,λσ' H' ⟨a,b⟩=>⟨ds.length-(i+1),by omega,a,rfl,b⟩,λx H3 hy=>?_⟩;let⟨s3,ix⟩:=yl x H3 hy;rw[List.drop_eq_getElem_cons hlt]at e2;let⟨o1,e3,e4⟩:=OH (e2);let⟨Y3,g3,f3⟩:=OH e3;refine⟨⟨O2,Y2,ds[i]⟩,E2.grow s3,ix,Y3,g3,λσ4 E4=>⟨⟨O2,Y3⟩,E4,o1,f3,?_⟩⟩;have s4:=s2.trans s3.msk;cases o1 with
  |nx Y5=>exactλσ5 H5 O5 s5 E5=>⟨hlt,O5,Y5,s4.trans s5,E5,e4⟩
  |ct Y5=>exactλσ5 H5 O5 s5 E5=>⟨hlt,O5,Y5,s4.trans s5,E5,e4⟩
  |bk Y5=>
   cases e4;exactλσ5 H5 O5 s5 E5=>k σ5 H5 O5 (s1.msk.trans (s4.trans s5)) E5
  |rt d=>
   cases e4;exact k
 .have hie:i=ds.length:=by omega
  subst hie;rw[List.drop_of_length_le (le_refl _)]at e2;cases e2;exact .inl ⟨hit.2 (OF _),k σ2 H2 O2 (s1.msk.trans s2) E2⟩
def GP (hp:PassesOwn (!4) X.A X.env X.xe) (hc:X.calm=true) (hi:PJ X tg iter fi) (hg:PGE X tg g) (hb:PRs X body F) (hs:∀x,foldedSetIterable iter X.env x=pure x):PR X (.For tg iter body [] pos) (c6 fi g F):=λB O Y=>
 (y9 hp hc (hi O _) (PG.ex λz:(Oa)×Ev×D=>hg B z.1 z.2.1 z.2.2) (PSs.ex λz:(Oa)×Ev=>hb B z.1 z.2) hs).imp λEn σ H ⟨E,out,q,k⟩=>wy E E.viewS q k
def Dz (hp:PassesOwn (!4) X.A X.env X.xe) (hc:X.calm=true) (hi:PJ X tg iter fi) (hg:PGE X tg g) (hb:PRs X body F) (hs:∀x,foldedSetIterable iter X.env x=pure x):PR X (.For tg iter body [] pos) (uU fi g F):=λB O Y=>
 (y9 hp hc (hi B.O (vw Y)) (PG.ex λz:(Oa)×Ev×D=>hg B z.1 z.2.1 z.2.2) (PSs.ex λz:(Oa)×Ev=>hb B z.1 z.2) hs).imp λEn σ H ⟨E,out,q,k⟩=>wy E.frozen.1 E.viewF q (k.mono E.frozen.2)
def gK {st} (h1:PR X st F) (h2:PR X st G):PR X st (orO F G):=λB O Y=>(h1 B O Y).by2 (h2 B O Y) λEn σ H ⟨E,out,q,k⟩=>by
 rcases or_some q with q|q;all_goals grind
end
section
variable {K:Frag} {B:Bs} {O:Oa} {σ:St} {H:Hp} {Y:Ev}
def EnvOk.ownAt (E:EnvOk K B O σ H Y) {i:Nat} (h:Y[i]?=!(!(c,.lst ds))) (hc:c≠.sh):
  ∃a xs,σ[i]?=!(!(.ref a))/\H a=!(.lst xs)/\ds.length=xs.length/\O a=true/\B.H a=none:=by
 let⟨F,h1,h2,h3,h4⟩:=E.fp
 let⟨v,e,o⟩:=h1 i _ h
 cases c with
 |sh=>exact absurd rfl hc
 |top=>
  let⟨a,ds',xs,z1,z2,z3,z4,l⟩:=o;cases z1;refine⟨a,xs,by rw[e,z2],z4,l.len,?_⟩;exact h4 i a (by rw[z3];exact Oo)
 |deep=>
  let⟨a,xs,A',z1,z2,z3,l⟩:=o;refine⟨a,xs,by rw[e,z1],z2,DeepL.len l,?_⟩;exact h4 i a (by rw[z3];exact Oo)
def  lsW (f:{α:Type}->List α->α->List α):Prop:=∀ {K:Frag} {M H:Hp} {ds:Oc} {xs:List V} {A A1:List Addr} {d:D} {v:V},DeepL K M H ds xs A->Deep K M H d v A1->(A++A1).Nodup->
 ∃A',DeepL K M H (f ds d) (f xs v) A'/\A'.Nodup/\∀b∈A',b∈A\/b∈A1
def  lsI (f:{α:Type}->List α->α->List α):Prop:=∀ {K:Frag} {M:Hp} {ds:Oc} {xs:List V} {d:D} {v:V},IsL K M ds xs->Is K M d v->IsL K M (f ds d) (f xs v)
def  newCat (c:Cat) (s:Sl):Cat:=if c=.deep/\s.1=.deep then .deep else .top
def EnvOk.change (E:EnvOk K B O (σ++[!v]) H (Y++[!s])) (f:{α:Type}->List α->α->List α) (hw:lsW f) (hi:lsI f) {i:Nat} (h:Y[i]?=!(!(c,.lst ds))) (hc:c≠.sh):
  ∃a xs,σ[i]?=!(!(.ref a))/\H a=!(.lst xs)/\ds.length=xs.length/\∃O',EnvOk K B O' σ (upd H a (.lst (f xs v))) (Y.set i (!(newCat c s,.lst (f ds s.2))))/\Same (msk O H) (msk O' (upd H a (.lst (f xs v)))):=by
 let⟨F,h1,h2,h3,h4⟩:=E.fp
 have len:σ.length=Y.length:=by have:=E.len;simp at this;exact this
 have hil:=(On.mp h).1
 have hin:i≠Y.length:=by omega
 let⟨v',e1,o1⟩:=h1 Y.length s (getElem?_last _ _)
 rw[<-len,getElem?_last]at e1
 cases e1
 let⟨v0,e0,o0⟩:=h1 i _ (by rw[getElem?_append_left hil];exact h)
 have e0':=dS (!1) e0
 -- the list's place
 have at_:∃a xs A',v0=.ref a/\H a=!(.lst xs)/\F i=a::A'/\ds.length=xs.length/\(c=.deep->DeepL K (msk O H) H ds xs A')/\(∀O',Same (msk O H) (msk O' H)->(∀b∈A',O' b=false)->IsL K (msk O' H) ds xs):=by
  cases c with
  |sh=>exact absurd rfl hc
  |top=>
   let⟨a,ds',xs,z1,z2,z3,z4,l⟩:=o0;cases z1;exact⟨a,xs,[],z2,z4,z3,l.len,(λz=>by cases z),λO' le _=>IsL.mono le _ _ l⟩
  |deep=>
   let⟨a,xs,A',z1,z2,z3,l⟩:=o0;exact⟨a,xs,A',z1,z2,z3,DeepL.len l,λ_=>l,λO' le hA=>DeepL.is (NL.of le) ds xs A' (λb hb o q=>by rw[aA (hA b hb)];exact q) l⟩
 let⟨a,xs,A',rfl,ha,hF,hl,hdeep,htop⟩:=at_
 have haF:a∈F i:=by rw[hF];exact Oo
 let⟨haO,haB⟩:=h4 i a haF
 have nd:=h2 i
 rw[hF]at nd
 have haA':=(List.nodup_cons.mp nd).1
 have hA'F:∀b∈A',b∈F i:=λb hb=>by rw[hF];exact Op _ hb
 have han:a ∉ F Y.length:=λz=>hin (h3 _ _ a haF z)
 refine⟨a,xs,e0',ha,hl,?_⟩
 -- the rest of the frame
 have oth:∀ {O':Oa} {H':Hp},Same (msk O H) (msk O' H')->(∀b,b≠a->H' b=H b)->∀j x,j≠i->Y[j]?=!(!x)->∃w,σ[j]?=!_/\OwnC K O' H' x.1 x.2 w (F j):=λ{O' H'} le hh j x hj hx=>by
  have hjl:=(On.mp hx).1;let⟨w,e2,o2⟩:=h1 j x (by rw[getElem?_append_left hjl];exact hx);refine⟨w,dS (!1) e2,o2.frame le λb hb o q=>?_⟩;have hba:b≠a:=λz=>hj (h3 j i a (z▸hb) haF);rw[hh b hba];exact q
 by_cases hd:c=.deep/\s.1=.deep
 .let⟨rfl,hs⟩:=hd;let⟨sc,sd⟩:=s;cases(hs);have o1':=o1;have ndT:=List.nodup_append.mpr ⟨(List.nodup_cons.mp nd).2,h2 _,λx hx y hy z=>by
   subst z;exact hin (h3 i Y.length x (hA'F x hx) hy)⟩
  let⟨A2,l2,n2,sub2⟩:=hw (hdeep rfl) o1' ndT;have haA2:a ∉ A2:=λz=>by
   rcases sub2 a z with z|z
   .exact haA' z
   .exact han z
  have me:msk O (upd H a (.lst (f xs v)))=msk O H:=eH haO;have le:Same (msk O H) (msk O (upd H a (.lst (f xs v)))):=by rw[me];exact Same.refl _
  refine⟨O,⟨λb o z=>?_,E.bdom,E.sub,λb hb=>?_,by simpa using len,λj=>if j=i then a::A2 else if j=Y.length then[]else F j,λj x q=>?_,λj=>?_,λj k b hj hk=>?_,λj b hj=>?_⟩,le⟩
  .rw[ae (ak z haB)];exact E.same b o z
  .by_cases hba:b=a
   .subst hba;exact .inl ⟨_,ai⟩
   .rw[ae hba];exact E.lis b hb
  .rcases get_set_some q with⟨e,q'⟩|⟨e,q'⟩
   .cases q';subst e;refine⟨.ref a,e0',?_⟩;simp only[if_true];refine⟨a,f xs v,A2,rfl,ai,rfl,DeepL.frame (NL.of le) _ _ A2 (λb hb o q=>?_) l2⟩;have hba:b≠a:=λz=>haA2 (by rw[<-z];exact hb);rw[ae hba];exact q
   .have hj:j≠Y.length:=by have:=(On.mp q').1;omega
    let⟨w,e2,o2⟩:=oth le (λb hb=>ae hb) j x e q';exact⟨w,e2,by simp only[if_neg e,if_neg hj];exact o2⟩
  .dsimp only;split
   .exact List.nodup_cons.mpr ⟨haA2,n2⟩
   .split
    .exact List.nodup_nil
    .exact h2 _
  .have key:∀j b,b∈(if j=i then a::A2 else if j=Y.length then[]else F j)->(j=i/\(b∈F i\/b∈F Y.length))\/(j≠i/\j≠Y.length/\b∈F j):=λj b hb=>by
    by_cases e:j=i
    .rw[if_pos e]at hb;refine .inl ⟨e,?_⟩;rcases mem_cons.mp hb with rfl|hb
     .exact .inl haF
     .rcases sub2 b hb with z|z
      .exact .inl (hA'F b z)
      .exact .inr z
    .rw[if_neg e]at hb;by_cases e2:j=Y.length
     .rw[if_pos e2]at hb;cases hb
     .rw[if_neg e2]at hb;exact .inr ⟨e,e2,hb⟩
   rcases key j b hj with⟨p1,p2⟩|⟨p1,p2,p3⟩<;>rcases key k b hk with⟨q1,q2⟩|⟨q1,q2,q3⟩
   .omega
   .rcases p2 with p2|p2
    .exact absurd (h3 _ _ b p2 q3) (!1)
    .exact absurd (h3 _ _ b p2 q3) (!1)
   .rcases q2 with q2|q2
    .exact absurd (h3 _ _ b p3 q2) (!1)
    .exact absurd (h3 _ _ b p3 q2) (!1)
   .exact h3 _ _ b p3 q3
  .dsimp only at hj;split at hj
   .rcases mem_cons.mp hj with rfl|hj
    .exact⟨haO,haB⟩
    .rcases sub2 b hj with z|z
     .exact h4 i b (hA'F b z)
     .exact h4 _ b z
   .split at hj
    .cases hj
    .exact h4 _ b hj
 .have nc:newCat c s=.top:=by unfold newCat;rw[if_neg hd]
  rw[nc];let O':Oa:=λb=>O b&&not (decide (b∈A'))&&not (decide (b∈F Y.length));have hO'a:O' a=true:=by simp[O',haO,haA',han]
  have hsub:∀b,O' b=true->O b=true:=λb hb=>by simp[O']at hb;exact hb.1.1
  have hno:∀b∈A',O' b=false:=λb hb=>by simp[O',hb]
  have hno2:∀b∈F Y.length,O' b=false:=λb hb=>by simp[O',hb]
  have le0:Same (msk O H) (msk O' H):=λb o q=>by
   let⟨q1,q2⟩:=aJ q;rw[aA (by simp[O',q1])];exact q2
  have me:msk O' (upd H a (.lst (f xs v)))=msk O' H:=eH hO'a;have le:Same (msk O H) (msk O' (upd H a (.lst (f xs v)))):=by rw[me];exact le0
  have l3:IsL K (msk O' (upd H a (.lst (f xs v)))) (f ds s.2) (f xs v):=by
   rw[me];exact hi (htop O' le0 hno) (o1.is le0 hno2)
  refine⟨O',⟨λb o z=>?_,E.bdom,λb hb=>?_,λb hb=>?_,by simpa using len,λj=>if j=i then[a]else if j=Y.length then[]else F j,λj x q=>?_,λj=>?_,λj k b hj hk=>?_,λj b hj=>?_⟩,le⟩
  .rw[ae (ak z haB)];exact E.same b o z
  .have h5:b ∉ A':=λz=>E.bdom b hb (h4 i b (hA'F b z)).2;have h6:b ∉ F Y.length:=λz=>E.bdom b hb (h4 _ b z).2;simp[O',E.sub b hb,h5,h6]
  .by_cases hba:b=a
   .subst hba;exact .inl ⟨_,ai⟩
   .rw[ae hba];exact E.lis b (hsub b hb)
  .rcases get_set_some q with⟨e,q'⟩|⟨e,q'⟩
   .cases q';subst e;refine⟨.ref a,e0',?_⟩;simp only[if_true];exact⟨a,f ds s.2,f xs v,rfl,rfl,rfl,ai,l3⟩
   .have hj:j≠Y.length:=by have:=(On.mp q').1;omega
    let⟨w,e2,o2⟩:=oth le (λb hb=>ae hb) j x e q';exact⟨w,e2,by simp only[if_neg e,if_neg hj];exact o2⟩
  .dsimp only;split
   .simp
   .split
    .exact List.nodup_nil
    .exact h2 _
  .dsimp only at hj hk;split at hj
   .split at hk
    .omega
    .split at hk
     .cases hk
     .rw[mem_singleton.mp hj]at hk;exact absurd (h3 _ _ a haF hk) (!1)
   .split at hj
    .cases hj
    .split at hk
     .rw[mem_singleton.mp hk]at hj;exact absurd (h3 _ _ a hj haF) (!1)
     .split at hk
      .cases hk
      .exact h3 _ _ b hj hk
  .dsimp only at hj;split at hj
   .rw[mem_singleton.mp hj];exact⟨hO'a,haB⟩
   .rename_i hji;split at hj
    .cases hj
    .rename_i hjn;refine⟨?_,(h4 _ b hj).2⟩;have h5:b ∉ A':=λz=>hji (h3 _ _ b hj (hA'F b z));have h6:b ∉ F Y.length:=λz=>hjn (h3 _ _ b hj z);simp[O',(h4 _ b hj).1,h5,h6]
end
def  DA (R:wp) (g:D->Ev->Option Ev):Cl:=λY=>(R (shv Y)).bind λd=>(g d Y).bind λY'=>!(.nx Y')
def  GQ (R:wp) (g:D->Ev->Option Ev):Cl:=λY=>(R (vw Y)).bind λd=>(g d (gH Y)).bind λY'=>!(.nx Y')
section
variable {X:Cx} {e tg:Expr} {pos:Pos}
def DB (h:PP X e R) (hg:PGE X tg g) (hs:swapsWithSole [tg] e pos.line X.env=pure false) (hw:swappedStores [tg] e X.env=pure none) (h1:(assignEach [tg] X.env).map (·.2)=[assign tg X.env]):PR X (.Assign [tg] e pos) (DA R g):=λB O Y=>
 (qw (h O _) (PG.ex λz:D=>hg B O Y z) hs hw h1).imp λEn σ H ⟨E,o,q,k⟩=>by
 let⟨d,q1,q2⟩:=OH q;let⟨Y',q3,q4⟩:=OH q2;cases q4;exact⟨E.viewS,d,q1,λv H' s i=>⟨d,E.grow s,i,Y',q3,λσ' E'=>k σ' H' O s.msk E'⟩⟩
def DC (h:PP X e R) (hg:PGE X tg g) (hs:swapsWithSole [tg] e pos.line X.env=pure false) (hw:swappedStores [tg] e X.env=pure none) (h1:(assignEach [tg] X.env).map (·.2)=[assign tg X.env]):PR X (.Assign [tg] e pos) (GQ R g):=λB O Y=>
 (qw (h B.O (vw Y)) (PG.ex λz:D=>hg B B.O _ z) hs hw h1).imp λEn σ H ⟨E,o,q,k⟩=>by
 let⟨d,q1,q2⟩:=OH q;let⟨Y',q3,q4⟩:=OH q2;cases q4;let⟨E',le⟩:=E.frozen;exact⟨E.viewF,d,q1,λv H' s i=>⟨d,E'.grow s,i,Y',q3,λσ' E2=>k σ' H' B.O (le.trans s.msk) E2⟩⟩
end
noncomputable def  fK {α:Type} (l:List α) (x:α):List α:=l++[x]
def Ah:lsW fK:=λh q nd=>⟨_,DeepL.snoc q h,nd,λb hb=>mem_append.mp hb⟩
def Ai:lsI fK:=λh q=>h.app ⟨_,[],rfl,q,rfl⟩
def DeepL.setAt {K} (h:Deep K M H d v A1):∀ {ds:Oc} {xs:List V} {A:List Addr} (j:Nat),DeepL K M H ds xs A->(A++A1).Nodup->
  ∃A',DeepL K M H (ds.set j d) (xs.set j v) A'/\A'.Nodup/\∀b∈A',b∈A\/b∈A1
 |[],_,_,_,l,nd=>by
  let⟨rfl,rfl⟩:=l;exact⟨[],⟨rfl,rfl⟩,List.nodup_nil,λ_ hb=>(nomatch hb)⟩
 |c::ds,_,_,0,⟨x,r,A0,A2,e,z,q,l⟩,nd=>by
  subst e;subst z;rw[List.append_assoc]at nd;let⟨n1,n2,n3⟩:=List.nodup_append.mp nd;let⟨m1,m2,m3⟩:=List.nodup_append.mp n2;refine⟨A1++A2,⟨v,r,A1,A2,rfl,rfl,h,l⟩,List.nodup_append.mpr ⟨m2,m1,λa ha b hb z=>m3 b hb a ha z.symm⟩,λb hb=>?_⟩;rcases mem_append.mp hb with hb|hb
  .exact .inr hb
  .exact .inl (OA _ hb)
 |c::ds,_,_,j+1,⟨x,r,A0,A2,e,z,q,l⟩,nd=>by
  subst e;subst z;rw[List.append_assoc]at nd;let⟨n1,n2,n3⟩:=List.nodup_append.mp nd;let⟨A',l',nd',sub⟩:=DeepL.setAt h j l n2;refine⟨A0++A',⟨x,r.set j v,A0,A',rfl,rfl,q,l'⟩,List.nodup_append.mpr ⟨n1,nd',λa ha b hb z=>?_⟩,λb hb=>?_⟩
  .rcases sub b hb with hb|hb
   .exact n3 a ha b (Oz _ hb) z
   .exact n3 a ha b (OA _ hb) z
  .rcases mem_append.mp hb with hb|hb
   .exact .inl (Oz _ hb)
   .rcases sub b hb with hb|hb
    .exact .inl (OA _ hb)
    .exact .inr hb
noncomputable def  GR (j:Nat) {α:Type} (l:List α) (x:α):List α:=l.set j x
def J9 (j:Nat):lsW (GR j):=λh q nd=>DeepL.setAt q j h nd
def i_set (j:Nat):lsI (GR j):=λh q=>.of (mK q j h.paired)
section
variable {X:Cx} {e:Expr} {pos:Pos}
def  ownL (Y:Ev) (i:Nat):Option (Cat×List D):=(eB Y i).bind λs=>match s with
 |(.sh,_)=>none
 |(c,.lst ds)=>!(c,ds)
 |_=>none
def bJ (h:ownL Y i=!(c,ds)):Y[i]?=!(!(c,.lst ds))/\c≠.sh:=by
 let⟨⟨c',d⟩,e,q⟩:=OH h;have e':=bY e;grind
def  i9 (i:Nat) (g:NZ):Cl:=λY=>(ownL Y i).bind λ_=>(g Y).bind λz=>(ownL z.2 i).bind λw=>if w.2.length+1<big then !(.nx (z.2.set i (!(newCat w.1 z.1,.lst (w.2++[z.1.2])))))else none
def j7 (i:Nat) (h:PEv X e g) (hN:X.N[i]?=!x) (hv:Vis X.env.scope x) (hd:(!7)=false) (hcd:(!12)=false) (hst:starEach [e] X.env=(false,eval e X.env)::starEach [] X.env) (hline:(apos.endLine==cpos.line)=true):PR X (.Expr (.Call (.Attribute (!18) "append" apos) [e] [] cpos) pos) (i9 i g):=λB O Y=>
 (eF (kW PySem.F.plainAttrs_list PySem.F.slot_list_append PySem.F.type_list_append j3 (bT hN hv hd hcd) (bq (h B O Y).1 pa_nil hst) rfl (by rw[hst];rfl) hline hst rfl)).imp λEn σ H ⟨E,o,q,k⟩=>by
 let⟨⟨c0,ds0⟩,q1,q⟩:=OH q;let⟨⟨s,Y'⟩,q2,q⟩:=OH q;let⟨⟨c,ds⟩,q3,q⟩:=OH q;let⟨hz,q⟩:=ar q;subst q;let⟨h0,hc0⟩:=bJ q1;let⟨h1,hc1⟩:=bJ q3;let⟨a,xs0,e1,r3,_⟩:=E.ownAt h0 hc0;refine⟨.ref a,e1,.inl ⟨rfl,_,SqL.of r3⟩,E,s,Y',q2,λv H1 O1 s1 E1=>?_⟩;let⟨a',xs,e2,r4,hl,O2,E2,s2⟩:=E1.change fK Ah Ai h1 hc1;rw[e1]at e2;cases e2;exact⟨a,xs,v,rfl,rfl,r4,by rw[f6,<-hl];exact Nat.lt_of_succ_lt hz,k σ _ O2 (s1.trans s2) E2⟩
def  ja (i:Nat) (fk:wp) (g:NZ):Cl:=λY=>(g Y).bind λz=>(ownL z.2 i).bind λw=>(fk (vw z.2)).bind λy=>match y with
 |.int k=>(ixN w.2.length k).bind λj=>!(.nx (z.2.set i (!(newCat w.1 z.1,.lst (w.2.set j z.1.2)))))
 |_=>none
def GS (i:Nat) (h:PEv X e g) (hk:PP X ik fk) (hN:X.N[i]?=!x) (hv:Vis X.env.scope x) (hd:(!7)=false) (hcd:(!12)=false) (ha:∀v,assign (.Subscript (!18) ik spos) X.env v=(do
   let ov<-holding [v] (eval (!18) X.env)
   let iv<-holding [v,ov] (eval ik X.env)
   standAt spos
   holding [v,ov,iv] (setItem ov iv v)
   release [v,ov,iv] [])) (hs:swapsWithSole [.Subscript (!18) ik spos] e pos.line X.env=pure false) (hw:swappedStores [.Subscript (!18) ik spos] e X.env=pure none) (h1:(assignEach [.Subscript (!18) ik spos] X.env).map (·.2)=[assign (.Subscript (!18) ik spos) X.env]):PR X (.Assign [.Subscript (!18) ik spos] e pos) (ja i fk g):=λB O Y=>
 (qw (h B O Y).1 (y7 (bT hN hv hd hcd) (PE.ex λz:Vv=>hk noO z) zv ha) hs hw h1).imp λEn σ H ⟨E,o,q,k⟩=>by
 let⟨⟨s,Y'⟩,q1,q⟩:=OH q
 let⟨⟨c,ds⟩,q2,q⟩:=OH q
 let⟨y,q3,q⟩:=OH q
 let⟨h0,hc0⟩:=bJ q2
 refine⟨E,s,Y',q1,λv H1 O1 s1 E1=>?_⟩
 let⟨a,xs0,e1,_⟩:=E1.drop.ownAt h0 hc0
 refine⟨.ref a,e1,vw Y',E1.drop.view,y,q3,λyv H2 s2 iy=>?_⟩
 cases y with
 |int n=>
  let⟨j,j1,q⟩:=OH q;cases q;cases(iy);let⟨a',xs,e2,r4,hl,O2,E2,s3⟩:=(E1.grow s2).change (GR j) (J9 j) (i_set j) h0 hc0;rw[e1]at e2;cases e2;exact⟨a,xs,n,j,rfl,rfl,r4,by rw[<-hl];exact j1,k σ _ O2 (s1.trans (s2.msk.trans s3)) E2⟩
 |_=>cases q
end
def  spC (K:Frag) (f:ad):Sp:=λvs H Q _=>∃O ds s,(∀b,O b=true->Hid (H b))/\IsL K (msk O H) ds vs/\f ds=!s/\∀v H',RetOk K ⟨H,O⟩ H' s v->Q v H'
noncomputable def  av (n:Nat) (ds:Oc):Ev:=ds.map (λd=>!(.sh,d))++List.replicate (n-ds.length) none
noncomputable def  Ka (o:Option Out):N2:=o.bind λo=>match o with
 |.rt d=>!d
 |.nx _=>!(.deep,.non)
 |_=>none
def  aC (n m:Nat) (F:Cl) (ds:Oc):N2:=if ds.length=n then Ka (F (av m ds))else none
def ii (h:aC n m F ds=!d):ds.length=n/\Ka (F (av m ds))=!d:=by
 unfold aC at h;grind
section
variable {P:Program} {w:World} {K:Frag} {mg:Str->N6} {base:Heap}
def uV {i:Nat} (q:(av n ds)[i]?=!(!s)):∃d,ds[i]?=!d/\s=(.sh,d):=by
 unfold av at q;grind
def mU {O:Oa} {H:Hp} {N:N8} {vs:List V} {ds:Oc} (hd:∀b,O b=true->Hid (H b)) (il:IsL K (msk O H) ds vs):EnvOk K ⟨H,O⟩ O (iK N vs) H (av N.length ds) where
 same:=Same.refl _
 bdom:=λb h=>(hd b h).ne
 sub:=λ_ h=>h
 lis:=hd
 len:=by
  unfold iK av;rw[length_append,length_append,length_map,length_map,List.length_replicate,List.length_replicate,il.len]
 fp:=by
  refine⟨λ_=>[],λi s q=>?_,λ_=>List.nodup_nil,λ_ _ _ h=>(nomatch h),λ_ _ h=>(nomatch h)⟩;let⟨d,e,rfl⟩:=uV q;let⟨x,hx,ix⟩:=il.get e;refine⟨x,?_,rfl,ix⟩;have hi:=(On.mp hx).1;unfold iK;rw[getElem?_append_left (by rw[length_map];exact hi),getElem?_map,hx];rfl
def GU {st} (Fn:Fun K x qual st f fd) (S:FnScope N ps (aj st)) (hb:∀ (cdv:Value) (A:Around) (outer:List Env) (s:Shared) (H:Hp) (E:XK),Room k (A.deeper (envOfC qual (aj st) s.heap.objs.size f cdv))->PRs (mB CX0 P w K mg base N qual (aj st) f cdv A outer s H E).nox (aF st) F):
  FnOk P w K mg base CX0 (k+1) f fd ps (spC K (aC ps.length N.length F)):=by
 refine Fn.ok S (λvs H Q E ⟨O,ds,d,_,il,e,_⟩=>by rw[<-il.len];exact(ii e).1) (λcdv A outer s H vs Q E hr ⟨O,ds,d,hd,il,e,kk⟩=>?_)
 refine⟨_,hb cdv A outer s H E hr ⟨H,O⟩ O _,mU hd il,?_⟩
 let⟨o,e1,e2⟩:=OH (ii e).2
 refine⟨o,e1,?_⟩
 cases o with
 |rt d'=>cases e2;exact kk
 |nx Y=>cases e2;exactλσ' H' O' s' E'=>kk .non H' ⟨O',[],E'.same,E'.sub,E'.lis,List.nodup_nil,λ_ h=>(nomatch h),rfl,rfl⟩
 |bk Y=>cases e2
 |ct Y=>cases e2
structure Df (P:Program) (w:World) (K:Frag) (mg:Str->N6) (base:Heap) (x:Str) (k:Nat) (f:ad):Prop where
 ex:∃ (a:Addr) (fd:FuncData) (ps:N8),mg x=!(.ref a)/\PySem.W.keepIn K (.ref a)=true/\Binds K fd ps []/\FnOk P w K mg base CX0 k a fd ps (spC K f)
def RetOk.is (hd:∀b,O b=true->Hid (H b)) (r:RetOk K ⟨H,O⟩ H' s v):Same H H'/\Is K (msk O H') s.2 v:=by
 let⟨O',A,h1,h2,h3,h4,h5,h6⟩:=r;refine⟨h1,h6.is (λb o q=>?_) λa ha=>?_⟩
 .let⟨q1,q2⟩:=aJ q;rw[aA];exact q2;cases z:O b with
  |false=>rfl
  |true=>rw[h2 b z]at q1;cases q1
 .cases z:O a with
  |false=>rfl
  |true=>exact absurd (h5 a ha).2 (hd a z).ne
end
section
variable {X:Cx} {x:Str} {p pos apos:Pos} {e o:Expr} {es:Od} {k:Nat} {f:ad} {fa:dl}
noncomputable def  valO (o:N2):Oe:=o.bind λs=>!s.2
noncomputable def  deepO (o:N2):Oe:=o.bind λs=>match s with
 |(.deep,d)=>!d
 |_=>none
def DD (F:Df X.prog X.w X.K X.mg X.base x k f) (hr:Room k X.A) (hg:Gl X x) (ha:PX X (e::es) fa) (hdb:(!7)=false) (he:starEach (e::es) X.env=(false,eval e X.env)::starEach es X.env) (hpl:(!15).any (·.1)=false):
  PP X (!17) (λY=>(fa Y).bind λds=>valO (f ds)):=λO Y=>by
 let⟨a,fd,ps,hm,hk,hb,G⟩:=F.ex
 refine(qy G hr hg hm hk hb .nil sx (ha O Y) hdb he hpl).imp λσ H Q ⟨E,d,q,kk⟩=>?_
 let⟨ds,q1,q2⟩:=OH q
 let⟨s,q3,q4⟩:=OH q2
 cases q4
 refine⟨E,ds,q1,λvs H1 s1 il=>?_⟩
 show spC X.K f (vs++[]) H1 Q E0
 rw[List.append_nil]
 refine⟨O,ds,s,(E.grow s1).lis,il,q3,λv H2 r=>?_⟩
 let⟨s2,iv⟩:=r.is (E.grow s1).lis
 exact kk v H2 (s1.trans s2) iv
def DE (F:Df X.prog X.w X.K X.mg X.base x k f) (hr:Room k X.A) (hg:Gl X x) (ha:PX X (e::es) fa) (hdb:(!7)=false) (he:starEach (e::es) X.env=(false,eval e X.env)::starEach es X.env) (hpl:(!15).any (·.1)=false):
  PFr X (!17) (λY=>(fa Y).bind λds=>deepO (f ds)):=λY=>by
 let⟨a,fd,ps,hm,hk,hb,G⟩:=F.ex
 refine PE.pu ((qy G hr hg hm hk hb .nil sx (ha noO Y) hdb he hpl).imp λσ H Q ⟨E,d,q,kk⟩=>?_) rfl
 let⟨ds,q1,q2⟩:=OH q
 let⟨⟨c,d'⟩,q3,q4⟩:=OH q2
 cases c with
 |sh=>cases q4
 |top=>cases q4
 |deep=>
  cases q4;refine⟨E,ds,q1,λvs H1 s1 il=>?_⟩;show spC X.K f (vs++[]) H1 Q E0;rw[List.append_nil];refine⟨noO,ds,_,(E.grow s1).lis,il,q3,λv H2 r=>?_⟩;let⟨O',A,h1,h2,h3,h4,h5,h6⟩:=r;exact kk v H2 A (s1.trans h1) (Deep.frame (NL.of msk_le) _ v A (λ_ _ _ h=>h) h6) h4 λa ha=>s1.free (h5 a ha).2
end
noncomputable def  qL:N8->Str->Option Nat
 |[],_=>none
 |y::r,x=>if y=x then some 0 else(qL r x).map (·+1)
def fL:∀ {l:N8} {x:Str} {i:Nat},qL l x=!i->l[i]?=!x
 |[],_,_,h=>by cases h
 |y::r,x,i,h=>by
  unfold qL at h;split at h
  .rename_i e;cases h;simp[e]
  .cases e:qL r x with
   |none=>rw[e]at h;cases h
   |some j=>
    rw[e]at h;cases h;have:=fL e;simpa using this
structure Glob where
 fn:Str->Option (Nat×(ad))
 cn:Str->Oe
 no:Str->Bool
 fl:Str->Str->Bool
structure SE where
 N:N8
 nm:List (Str×NameKind)
 k:Nat
 G:Glob
noncomputable def  eY (x:Str):Bool:=not (!7)&&not (!12)&&not (decide (x=("__name__":Str)))
noncomputable def  wz:Option NameKind->Bool
 |some .local=>true
 |some .cell=>true
 |some .free=>true
 |_=>false
def  slot (S:SE) (x:Str):Option Nat:=if eY x&&wz (S.nm.lookup x)then qL S.N x else none
noncomputable def  qM (x:Str):Option String:=if x=("int":Str)then some "int"else if x=("bool":Str)then some "bool"else if x=("str":Str)then some "str"else if x=("list":Str)then some "list"else if x=("tuple":Str)then some "tuple"else if x=("dict":Str)then some "dict"else none
def uW (h:qM x=!n):bootBuiltins x=!(.type n):=by
 unfold qM at h;split at h
 .rename_i e;cases h;subst e;decide+kernel
 .split at h
  .rename_i e;cases h;subst e;decide+kernel
  .split at h
   .rename_i e;cases h;subst e;decide+kernel
   .split at h
    .rename_i e;cases h;subst e;decide+kernel
    .split at h
     .rename_i e;cases h;subst e;decide+kernel
     .split at h
      .rename_i e;cases h;subst e;decide+kernel
      .cases h
section
variable {X:Cx} {S:SE} {pos:Pos}
def cH (h:eY x=true):(!7)=false/\(!12)=false/\x≠("__name__":Str):=by grind [eY]
end
section
variable {X:Cx} {e o:Expr} {es:Od} {p pos apos:Pos}
def  qN (fl:Str->Str->Bool) (m:Str):D->Oe
 |.obj C ns ds=>if fl C m then(ns.zip ds).lookup m else none
 |_=>none
def mV {K}:∀ {fs:List (Str×V)} {ds:Oc},IsL K H ds (fs.map (·.2))->((fs.map (·.1)).zip ds).lookup f=!d->∃v,fs.lookup f=!v/\Is K H d v
 |[],ds,_,e=>by simp at e
 |(n,v)::fs,[],l,e=>by simp at e
 |(n,v)::fs,d'::ds,⟨x,r,z,h,l⟩,e=>by
  have z':v::fs.map (·.2)=x::r:=z;cases z';simp only[List.map_cons,List.zip_cons_cons,List.lookup_cons]at e⊢;cases hf:f==n with
  |true=>rw[hf]at e;cases e;exact⟨v,rfl,h⟩
  |false=>rw[hf]at e;exact mV l e
def GV (ho:PP X o fo) (hfl:∀C Ca,fl C m=true->nsIn X.K mainGlobals C=!(!(.ref Ca))->Cls X.K Ca/\NoAttr X.K Ca m) (hbase:attributeBase o m X.env (eval o X.env)=eval o X.env):PP X (.Attribute o m pos) (λY=>(fo Y).bind (qN fl m)):=λO Y=>by
 refine(zj (ho O Y) hbase).imp λσ H Q ⟨E,d,q,k⟩=>?_;let⟨dv,q1,q⟩:=OH q;refine⟨E,dv,q1,λv H1 s1 iv=>?_⟩;cases dv with
 |obj C ns ds=>
  have q':(if fl C m=true then(ns.zip ds).lookup m else none)=!d:=q;split at q'
  .rename_i hC;let⟨a,Ca,dx,fs,rfl,h0,h1,h2,h3⟩:=iv;subst h2;let⟨v',e1,e2⟩:=mV h3 q';let⟨c,na⟩:=hfl C Ca hC h0;exact⟨a,Ca,dx,fs,v',rfl,msk_le _ _ h1,c,na,e1,k v' H1 s1 e2⟩
  .cases q'
 |_=>cases q
structure Mf (P:Program) (w:World) (K:Frag) (mg:Str->N6) (base:Heap) (C m:Str) (k:Nat) (f:ad):Prop where
 ex:∃ (Ca fa:Addr) (fd:FuncData) (ps:N8),nsIn K mainGlobals C=!(!(.ref Ca))/\Cls K Ca/\Meth K Ca m fa/\Binds K fd ps []/\FnOk P w K mg base CX0 k fa fd ps (spC K f)
abbrev MT:=Str->Option (Nat×(ad))
def  lm (mt:MT) (k0:Nat) (m:Str) (d:D) (as:Oc):N2:=match d with
 |.obj C ns _=>(mt C).bind λz=>if z.1<=k0/\m ∉ ns then z.2 (d::as)else none
 |_=>none
def uX {mt} (h:lm mt k0 m d as=!s):∃C ns ds k f,d=.obj C ns ds/\mt C=!(k,f)/\k<=k0/\m ∉ ns/\f (d::as)=!s:=by
 cases d with
 |obj C ns ds=>
  let⟨⟨k,f⟩,e,q⟩:=OH (h);split at q
  .rename_i c;exact⟨C,ns,ds,k,f,rfl,e,c.1,c.2,q⟩
  .cases q
 |_=>cases h
structure Pick (X:Cx) (mt:MT) (k0:Nat) (m:Str) where
 C:Str
 Ca:Addr
 fa:Addr
 fd:FuncData
 ps:N8
 k:Nat
 f:ad
 h:mt C=!(k,f)/\k<=k0/\nsIn X.K mainGlobals C=!(!(.ref Ca))/\Cls X.K Ca/\Meth X.K Ca m fa/\Binds X.K fd ps []/\FnOk X.prog X.w X.K X.mg X.base CX0 k fa fd ps (spC X.K f)
def DF {mt} (hmt:∀C k f,mt C=!(k,f)->Mf X.prog X.w X.K X.mg X.base C m k f) (h:mt C=!(k,f)) (hk:k<=k0):∃z:Pick X mt k0 m,z.C=C/\z.k=k/\z.f=f:=by
 let⟨Ca,fa,fd,ps,h1,h2,h3,h4,h5⟩:=(hmt C k f h).ex;exact⟨⟨C,Ca,fa,fd,ps,k,f,h,hk,h1,h2,h3,h4,h5⟩,rfl,rfl,rfl⟩
def  mW (fo:wp) (fa:dl) (mt:MT) (k0:Nat) (m:Str):Vv->N2:=λY=>(fo Y).bind λd=>(fa Y).bind λas=>lm mt k0 m d as
def GW {K} (h:Is K H (.obj C ns ds) v) (hc:nsIn K mainGlobals C=!(!(.ref Ca))) (hn:m ∉ ns):∃a dx fs,v=.ref a/\H a=!(.ins Ca dx fs)/\fs.lookup m=none:=by
 let⟨a,Cb,dx,fs,rfl,h0,h1,h2,h3⟩:=h;grind
def x8 (hfew:methodCallForm args.length (backTo pos (starEach args env)) (backToKw pos (keywordEach [] env)) = true) (hline:(apos.endLine == pos.line) = true) :
  eval (.Call (.Attribute (!18) m apos) args [] pos) env = (do
   let ov <- eval (!18) env
   standAt apos.atName
   let (f,first) <- holding [ov] (getMethod ov m (do return (<- importBound (!18) env).getD true))
   callWith pos f first (backTo pos (starEach args env)) (backToKw pos (keywordEach [] env))):=by
 show (do
  let ov <- eval _ env
  standAt apos.atName
  methodCall _ m apos pos env ov (args.length + 0) _ _) = _
 have hm:∀ ov,methodCall (!18) m apos pos env ov (args.length + 0) (backTo pos (starEach args env)) (backToKw pos (keywordEach [] env)) = (do
   let (f,first) <- holding [ov] (getMethod ov m (do return (<- importBound (!18) env).getD true))
   callWith pos f first (backTo pos (starEach args env)) (backToKw pos (keywordEach [] env))):=fun ov=>by
  unfold methodCall
  rw [Nat.add_zero,hfew]
  simp only [calleeOf,methodCallPos,hline,Bool.not_true,Bool.false_or,if_true,pure_bind]
 simp only [hm]
def x9 {mt} (ho:PP X (!18) fo) (hmt:∀C k f,mt C=!(k,f)->Mf X.prog X.w X.K X.mg X.base C m k f) (hr:Room k0 X.A) (hline:(apos.endLine==pos.line)=true) (O:Oa) (Y:Vv):
  PE X (.Call (.Attribute (!18) m apos) [] [] pos) (λσ H Q=>VE X.K O σ H Y/\∃s,mW fo (λ_=>![]) mt k0 m Y=!s/\∀v H1 H',Same H H1->RetOk X.K ⟨H1,O⟩ H' s v->Q v H'):=by
 refine(PE.ex λz:Pick X mt k0 m=>zp (ho O Y) z.h.2.2.2.1 z.h.2.2.2.2.1 z.h.2.2.2.2.2.2 (hr.mono z.h.2.1) z.h.2.2.2.2.2.1 .nil sx (x8 rfl hline)).imp λσ H Q ⟨E,s,q,kk⟩=>?_
 let⟨d,q1,q⟩:=OH q
 let⟨C,ns,ds,k,f,hd,hm,hk,hn,hf⟩:=uX (q)
 let⟨z,rfl,rfl,rfl⟩:=DF hmt hm hk
 refine⟨z,E,d,q1,λv H1 s1 iv=>?_⟩
 subst hd
 let⟨a,dx,fs,ev,ea,el⟩:=GW iv z.h.2.2.1 hn
 refine⟨a,dx,fs,ev,msk_le _ _ ea,el,?_⟩
 exact⟨O,[_],s,(E.grow s1).lis,⟨v,[],rfl,iv,rfl⟩,hf,λw' H3 r=>kk w' H1 H3 s1 r⟩
def GX {f:Vv->N2} (h:PE X e (λσ H Q=>VE X.K O σ H Y/\∃s,f Y=!s/\∀v H1 H',Same H H1->RetOk X.K ⟨H1,O⟩ H' s v->Q v H')):PE X e (tP X.K O Y (valO (f Y))):=h.imp λσ H Q ⟨E,d,q,k⟩=>by
 let⟨s,q1,q2⟩:=OH q;cases q2;refine⟨E,s,q1,λv H1 H' s1 r=>?_⟩;let⟨s2,iv⟩:=r.is (E.grow s1).lis;exact k v H' (s1.trans s2) iv
def  spI (K:Frag) (Ca:Addr) (g:Oc->Option (List (Str×D))):Sp:=λvs H Q _=>∃x vs' dx O ds fd,vs=.ref x::vs'/\H x=!(.ins Ca dx [])/\(∀b,O b=true->Hid (H b))/\O x=true/\IsL K (msk O H) ds vs'/\g ds=!fd/\
 ∀H' fs,(∀b o,b≠x->H b=!o->H' b=!o)->H' x=!(.ins Ca dx fs)->fs.map (·.1)=fd.map (·.1)->IsL K (msk O H') (fd.map (·.2)) (fs.map (·.2))->Q .non H'
structure Mkf (P:Program) (w:World) (K:Frag) (mg:Str->N6) (base:Heap) (C:Str) (k:Nat) (g:Oc->Option (List (Str×D))):Prop where
 ex:∃ (Ca fa:Addr) (fd:FuncData) (ps:N8),mg C=!(.ref Ca)/\nsIn K mainGlobals C=!(!(.ref Ca))/\Mk K Ca fa/\Binds K fd ps []/\FnOk P w K mg base CX0 k fa fd ps (spI K Ca g)
def  DG (C:Str) (o:Option (List (Str×D))):Oe:=o.bind λfd=>!(.obj C (fd.map (·.1)) (fd.map (·.2)))
def DH (F:Mkf X.prog X.w X.K X.mg X.base C k g) (hr:Room (k+1) X.A) (hg:Gl X C) (ha:PX X (e::es) fa) (hdb:(C==("__debug__":Str))=false) (he:starEach (e::es) X.env=(false,eval e X.env)::starEach es X.env) (hpl:(!15).any (·.1)=false):
  PP X (.Call (.Name C p) (e::es) [] pos) (λY=>(fa Y).bind λds=>DG C (g ds)):=λO Y=>by
 let⟨Ca,f,fd,ps,hm,hns,M,hb,G⟩:=F.ex
 refine(CQ M G hr hg hm hb .nil sx (ha O Y) hdb he hpl).imp λσ H Q ⟨E,d,q,kk⟩=>?_
 let⟨ds,q1,q2⟩:=OH q
 let⟨fl,q3,q4⟩:=OH q2
 cases q4
 refine⟨E,ds,q1,λvs H1 s1 il x dx hx hdx hne=>?_⟩
 have E1:=E.grow s1
 have hOx:=E1.fresh hx
 have s2:Same H1 (upd (upd H1 dx (.own x)) x (.ins Ca dx [])):=λb o q=>by
  rw[ae (ak q hx),ae (ak q hdx)];exact q
 have le:Same (msk O H1) (msk (λb=>O b||decide (b=x)) (upd _ x _)):=λb o q=>by
  let⟨q1,q2⟩:=aJ q;have hb:=ak q2 hx;rw[aA (by simp[q1,hb])];exact s2 _ _ q2
 rw[List.append_nil]
 refine⟨x,vs,dx,λb=>O b||decide (b=x),ds,fl,rfl,ai,λb hb=>?_,by simp,IsL.mono le _ _ il,q3,λH' fs keep hx' hns' hl=>⟨rfl,?_⟩⟩
 .rcases(Bool.or_eq_true _ _).mp hb with hb|hb
  .exact(E1.lis b hb).same s2
  .rw[of_decide_eq_true hb,ai];exact .inr (.inl ⟨_,_,_,rfl⟩)
 .have s3:Same H1 H':=λb o q=>keep b o (ak q hx) (s2 _ _ q);refine kk _ H' (s1.trans s3) ⟨x,Ca,dx,fs,rfl,hns,by rw[aA hOx];exact hx',hns',IsL.mono (λb o q=>?_) _ _ hl⟩;let⟨q1,q2⟩:=aJ q;have:O b=false:=by
   cases z:O b with
   |false=>rfl
   |true=>simp[z]at q1
  rw[aA this];exact q2
end
section
variable {K:Frag} {B:Bs} {O:Oa} {σ:St} {H:Hp} {Y:Ev}
def EnvOk.thaw (E:EnvOk K B O (σ++[!v]) H (Y++[!s])):∃O',EnvOk K B O' σ H Y/\Same (msk O H) (msk O' H)/\Is K (msk O' H) s.2 v:=by
 let⟨F,h1,h2,h3,h4⟩:=E.fp;have len:σ.length=Y.length:=by have:=E.len;simp at this;exact this
 let⟨v',e1,o1⟩:=h1 Y.length s (getElem?_last _ _);rw[<-len,getElem?_last]at e1;cases e1;let O':Oa:=λb=>O b&&not (decide (b∈F Y.length));have le:Same (msk O H) (msk O' H):=λb o q=>by
  let⟨q1,q2⟩:=aJ q;rw[aA (by simp[O',q1])];exact q2
 refine⟨O',⟨E.same,E.bdom,λb hb=>?_,λb hb=>E.lis b (by simp[O']at hb;exact hb.1),len,λj=>if j=Y.length then[]else F j,λj x q=>?_,λj=>?_,λj k a hj hk=>?_,λj a hj=>?_⟩,le,o1.is le λa ha=>by simp[O',ha]⟩
 .have h6:b ∉ F Y.length:=λz=>E.bdom b hb (h4 _ b z).2;simp[O',E.sub b hb,h6]
 .have hjl:=(On.mp q).1;have hj:j≠Y.length:=by omega
  let⟨w,e2,o2⟩:=h1 j x (by rw[getElem?_append_left hjl];exact q);exact⟨w,dS (!1) e2,by simp only[if_neg hj];exact o2.frame le λ_ _ _ h=>h⟩
 all_goals grind
def EnvOk.store (E:EnvOk K B O σ H Y) (hx:B.O x=true) (hb:B.H x=!(.ins Ca dx fs)):EnvOk K ⟨upd B.H x (.ins Ca dx fs'),B.O⟩ O σ (upd H x (.ins Ca dx fs')) Y/\msk O (upd H x (.ins Ca dx fs'))=msk O H:=by
 have me:msk O (upd H x (.ins Ca dx fs'))=msk O H:=eH (E.sub x hx);let⟨F,h1,h2,h3,h4⟩:=E.fp;have no:∀i,x ∉ F i:=λi z=>by have:=(h4 i x z).2;rw[hb]at this;cases this
 refine⟨⟨λb o q=>?_,λb q=>?_,E.sub,λb q=>?_,E.len,F,λi s q=>?_,h2,h3,λi a ha=>⟨(h4 i a ha).1,?_⟩⟩,me⟩
 .have q':upd B.H x (.ins Ca dx fs') b=!o:=q;by_cases h:b=x
  .subst h;rw[ai]at q'⊢;exact q'
  .rw[ae h]at q'⊢;exact E.same b o q'
 .by_cases h:b=x
  .subst h;show upd B.H b _ b≠none;rw[ai];simp
  .show upd B.H x _ b≠none;rw[ae h];exact E.bdom b q
 .by_cases h:b=x
  .subst h;rw[ai];exact .inr (.inl ⟨_,_,_,rfl⟩)
  .rw[ae h];exact E.lis b q
 .let⟨v,e,o⟩:=h1 i s q;refine⟨v,e,o.frame (by rw[me];exact Same.refl _) λa ha u hu=>?_⟩;have:a≠x:=λz=>no i (z▸ha);rw[ae this];exact hu
 .have:a≠x:=λz=>no i (z▸ha);show upd B.H x _ a=none;rw[ae this];exact(h4 i a ha).2
end
noncomputable def  mX (f:Str) (d:D):List (Str×D)->List (Str×D)
 |[]=>[(f,d)]
 |(g,e)::r=>if g=f then(g,d)::r else(g,e)::mX f d r
def qO {K} (h:Is K M d v):∀ {fd:List (Str×D)} {fs:List (Str×V)},fs.map (·.1)=fd.map (·.1)->IsL K M (fd.map (·.2)) (fs.map (·.2))->
  (fY f v fs).map (·.1)=(mX f d fd).map (·.1)/\IsL K M ((mX f d fd).map (·.2)) ((fY f v fs).map (·.2))
 |[],[],_,_=>⟨rfl,v,[],rfl,h,rfl⟩
 |[],_::_,e,_=>by simp at e
 |_::_,[],e,_=>by simp at e
 |(g,c)::fd,(g',u)::fs,e,⟨x,r,z,q,l⟩=>by
  have e1:g'=g:=by simp at e;exact e.1
  have e2:fs.map (·.1)=fd.map (·.1):=by simp at e;simpa using e.2
  subst e1;have z':u::fs.map (·.2)=x::r:=z;cases z';unfold fY mX;by_cases hg:g'=f
  .rw[if_pos hg,if_pos hg];exact⟨by simp[e2],v,_,rfl,h,l⟩
  .rw[if_neg hg,if_neg hg];let⟨a,b⟩:=qO h e2 l;exact⟨by simp[a],u,_,rfl,q,b⟩
abbrev InF:=Ev->List (Str×D)->Option (List (Str×D))
def  tIn (K:Frag) (Ca:Addr) (B:Bs) (O:Oa) (Y:Ev) (x dx:Addr) (fd:List (Str×D)) (o:Option (List (Str×D))):TS:=λEn σ H=>EnvOk K B O σ H Y/\B.O x=true/\
 (∃fs,B.H x=!(.ins Ca dx fs)/\fs.map (·.1)=fd.map (·.1)/\IsL K (msk O H) (fd.map (·.2)) (fs.map (·.2)))/\∃fd',o=!fd'/\
 ∀σ' H' O' fs',(∀b o,b≠x->B.H b=!o->H' b=!o)->(∀b,B.O b=true->O' b=true)->H' x=!(.ins Ca dx fs')->fs'.map (·.1)=fd'.map (·.1)->IsL K (msk O' H') (fd'.map (·.2)) (fs'.map (·.2))->En.nx σ' H'
def  PIn (X:Cx) (Ca x:Addr) (st:List Stmt) (I:InF):Prop:=∀B O Y dx fd,PSs X st (tIn X.K Ca B O Y x dx fd (I Y fd))
def  Aj:InF:=λ_ fs=>!fs
def  stI (F:Cl) (G:InF):InF:=λY fs=>(F Y).bind λo=>match o with
 |.nx Y'=>G Y' fs
 |_=>none
def  qP (x:Addr) (i:Nat) (f:Str) (g:NZ) (G:InF):InF:=λY fs=>(g Y).bind λz=>match eB z.2 i with
 |some (.sh,.adr a)=>if a=x/\fs.length<900 then G z.2 (mX f z.1.2 fs)else none
 |_=>none
section
variable {X:Cx} {Ca x:Addr} {st:Stmt} {rest:List Stmt} {e:Expr} {pos:Pos}
def GY:PIn X Ca x [] Aj:=λB O Y dx fd=>pss_nil.imp λEn σ H ⟨E,hx,⟨fs,h1,h2,h3⟩,fd',q,k⟩=>by
 cases q;exact k σ H O fs (λb o _ h=>E.same b o h) E.sub (E.same x _ h1) h2 h3
def DI (h1:PR X st F) (h2:PIn X Ca x rest G):PIn X Ca x (st::rest) (stI F G):=λB O Y dx fd=>
 (jh (h1 B O Y) (PSs.ex λz:(Oa)×Ev=>h2 B z.1 z.2 dx fd)).imp λEn σ H ⟨E,hx,⟨fs,a1,a2,a3⟩,fd',q,k⟩=>by
 let⟨o1,q1,q2⟩:=OH q;refine⟨E,o1,q1,?_⟩;cases o1 with
 |nx Y'=>exactλσ' H' O' s' E'=>⟨⟨O',Y'⟩,E',hx,⟨fs,a1,a2,IsL.mono s' _ _ a3⟩,fd',q2,k⟩
 |rt d=>cases q2
 |bk Y'=>cases q2
 |ct Y'=>cases q2
def GZ (i:Nat) (hv:PEv X e g) (h2:PIn X Ca x rest G) (hN:X.N[i]?=!self) (hvis:Vis X.env.scope self) (hd:(self==("__debug__":Str))=false) (hcd:(self==("__classdict__":Str))=false) (hs:swapsWith e (!(.Attribute (.Name self px) f pos')) pos.line X.env=pure false) (c:Cls X.K Ca) (na:NoAttr X.K Ca f):PIn X Ca x (.Assign [.Attribute (.Name self px) f pos'] e pos::rest) (qP x i f g G):=λB O Y dx fd=>
 (jh (zk (bT hN hvis hd hcd) (hv B O Y).1 hs) (PSs.ex λz:Bs×(Oa)×Ev×List _=>h2 z.1 z.2.1 z.2.2.1 dx z.2.2.2)).imp λEn σ H ⟨E,hx,⟨fs,a1,a2,a3⟩,fd',q,k⟩=>by
 let⟨⟨s,Y'⟩,q1,q⟩:=OH q;refine⟨E,s,Y',q1,λy H1 O1 s1 E1=>?_⟩;let⟨O2,E2,s2,iy⟩:=E1.thaw;have q':=q;split at q'
 .rename_i a ha;split at q'
  .rename_i hc;let⟨rfl,hl⟩:=hc;let⟨F,f1,_⟩:=E2.fp;let⟨w,ew,ow⟩:=f1 i _ (bY ha);cases(ow.2);have hb:=E2.same a _ a1;have hlen:fs.length=fd.length:=by have:=congrArg List.length a2;simpa using this
   refine⟨.ref a,ew,a,Ca,dx,fs,rfl,hb,c,na,by omega,?_⟩;let⟨E3,me⟩:=E2.store hx a1;have a3':=IsL.mono (s1.trans s2) _ _ a3;let⟨b1,b2⟩:=qO iy a2 a3';refine⟨⟨⟨upd B.H a _,B.O⟩,O2,Y',mX f s.2 fd⟩,E3,hx,⟨_,ai,b1,by rw[me];exact b2⟩,fd',q',λσ' H' O' fs' k1 k2 k3 k4 k5=>k σ' H' O' fs' (λb o hb h=>k1 b o hb (by show upd B.H a _ b=!o;rw[ae hb];exact h)) k2 k3 k4 k5⟩
  .cases q'
 .cases q'
end
def  uY (n:Nat) (x:Addr) (ds:Oc):Ev:=av n (.adr x::ds)
def  qQ (n m:Nat) (I:Addr->InF) (x:Addr) (ds:Oc):Option (List (Str×D)):=if ds.length+1=n then I x (uY m x ds) []else none
def MB {K} {st} (Fn:Fun K x qual st f fd) (S:FnScope N ps (aj st)) (hg:∀ds r,g ds=!r->∀y,qQ ps.length N.length I y ds=!r) (hb:∀ (y:Addr) (cdv:Value) (A:Around) (outer:List Env) (s:Shared) (H:Hp) (E:XK),Room k (A.deeper (envOfC qual (aj st) s.heap.objs.size f cdv))->PIn (mB CX0 P w K mg base N qual (aj st) f cdv A outer s H E).nox Ca y (aF st) (I y)):
  FnOk P w K mg base CX0 (k+1) f fd ps (spI K Ca g):=by
 refine Fn.ok S (λvs H Q E ⟨y,vs',dx,O,ds,r,e1,_,_,_,il,e,_⟩=>?_) (λcdv A outer s H vs Q E hr ⟨y,vs',dx,O,ds,r,e1,hy,hO,hOy,il,e,kk⟩=>?_)
 .have:=hg ds r e 0;unfold qQ at this;split at this
  .rename_i h;rw[e1,length_cons,<-il.len];exact h
  .cases this
 .have q:=hg ds r e y;unfold qQ at q;split at q
  .subst e1;have il':IsL K (msk O H) (.adr y::ds) (.ref y::vs'):=⟨_,_,rfl,rfl,il⟩;refine⟨_,hb y cdv A outer s H E hr ⟨H,O⟩ O _ dx [],mU hO il',hOy,⟨[],hy,rfl,rfl⟩,r,q,λσ' H' O' fs' k1 k2 k3 k4 k5=>?_⟩;refine kk H' fs' k1 k3 k4 (IsL.mono (λb o z=>?_) _ _ k5);let⟨z1,z2⟩:=aJ z;rw[aA];exact z2;cases zz:O b with
   |false=>rfl
   |true=>rw[k2 b zz]at z1;cases z1
  .cases q
structure NSt (b:Bool) (z j l:Addr) (k:Nat) (h:Heap):Prop where
 ne:z≠j
 hz:∃old,IsEnum h z j k old
 h1:ItK b h j l k
section
variable {prog:Program} {w:World} {A:Around} {E:N4} {s:Shared}
def Ak {k:Nat} {Q:N4} (Z:IsEnum s.heap z j k old) (J:ItK b s.heap j l k) (C:CoK b s.heap l xs) (hx:xs[k]?=!x) (ne:z≠j) (hQ:∀g,IsEnumOut g z j ((k:Int)+1) x s.heap.objs.size->ItK b g j l (k+1)->g.get? s.heap.objs.size=some {cls:=.type "tuple",data:=.seq #[.int k s.toks,x]}->g.objs.size=s.heap.objs.size+1->
   (∀d o,d≠z->d≠j->s.heap.get? d=!o->g.get? d=!o)->Q (.ref s.heap.objs.size) {s with heap:=g,toks:=s.toks+1}):
  wpAny (!6) A (Builtin.«enumerate.__next__» ⟨[.ref z],[]⟩) (λfin s'=>∃v,fin=.done (.ret v)/\Q v s') E s:=by
 cases s with
 |mk hp gn dr tk os=>
 show wpAny _ _ (field (.ref z) 2>>=_) _ _ _
 refine Og (wpAny_field Z rfl rfl (Og (wn J C hx λg1 J1 s1=>?_)))
 replace s1:Heap.SameBut j hp g1:=s1
 have Z1:=(s1.2 z ne).trans Z
 refine Og (wpAny_field Z1 rfl rfl ?_)
 refine Og (wpAny_field Z1 rfl rfl ?_)
 refine Og (wpAny_mkInt ?_)
 show wpAny _ _ (setField (.ref z) 3 (rawInt ((k:Int)+1))>>=_) _ _ ⟨g1,gn,dr,tk+1,os⟩
 refine Og (wpAny_setField_rec Z1 (by simp) λg2 Z2 s2=>?_)
 replace s2:Heap.SameBut z g1 g2:=s2
 replace Z2:IsEnum g2 z j ((k:Int)+1) old:=Z2
 refine Og (wpAny_setField_rec Z2 (by simp) λg3 Z3 s3=>?_)
 replace s3:Heap.SameBut z g2 g3:=s3
 replace Z3:IsEnum g3 z j ((k:Int)+1) old:=Z3
 refine Og (wpAny_newTuple ?_)
 have Z4:IsEnum (g3.push {cls:=.type "tuple",data:=.seq #[.int k tk,x]}) z j ((k:Int)+1) old:=Oh _ Z3
 have sz:g3.objs.size=hp.objs.size:=by rw[s3.1,s2.1,s1.1]
 have zl:=Oj Z
 have T4:(g3.push {cls:=.type "tuple",data:=.seq #[.int k tk,x]}).get? hp.objs.size=some {cls:=.type "tuple",data:=.seq #[.int k tk,x]}:=by rw[<-sz];exact Ol _ rfl
 have z4:(g3.push {cls:=.type "tuple",data:=.seq #[.int k tk,x]}).objs.size=hp.objs.size+1:=by rw[Heap.size_push,sz]
 have k4:∀d o,d≠z->d≠j->hp.get? d=!o->(g3.push {cls:=.type "tuple",data:=.seq #[.int k tk,x]}).get? d=!o:=λd o n1 n2 e=>
  Oh _ (s3.extBut d o n1 (s2.extBut d o n1 (s1.extBut d o n2 e)))
 have J4:ItK b (g3.push {cls:=.type "tuple",data:=.seq #[.int k tk,x]}) j l (k+1):=((J1.ext s2 ne.symm).ext s3 ne.symm).at λo e=>Oh _ e
 generalize g3.push {cls:=.type "tuple",data:=.seq #[.int k tk,x]}=g4 at Z4 T4 z4 k4 J4
 rw[sz]
 refine Og ?_
 refine Og (wpAny_field Z4 rfl rfl (Oi ?_))
 refine Og (wpAny_rule (Og (wpAny_field Z4 rfl (x:=old) rfl (Og (wpAny_setField_rec Z4 (by simp) λg5 Z5 s5=>?_)))))
 replace s5:Heap.SameBut z g4 g5:=s5
 replace Z5:IsEnum g5 z j ((k:Int)+1) x:=Z5
 show wpAny _ _ (Builtin.SmallTypes.ownedTupleHandOut (.ref z) (.ref hp.objs.size)>>=_) _ _ ⟨g5,gn,dr,tk+1,os⟩
 refine Og ?_
 refine Og (wpAny_setField_rec Z5 (by simp) λg6 Z6 s6=>?_)
 replace s6:Heap.SameBut z g5 g6:=s6
 replace Z6:IsEnumOut g6 z j ((k:Int)+1) x hp.objs.size:=Z6
 refine wpAny_setField_rec Z6 (by simp) λg7 Z7 s7=>?_
 replace s7:Heap.SameBut z g6 g7:=s7
 replace Z7:IsEnumOut g7 z j ((k:Int)+1) x hp.objs.size:=Z7
 have up:∀d o,d≠z->g4.get? d=!o->g7.get? d=!o:=λd o n e=>s7.extBut d o n (s6.extBut d o n (s5.extBut d o n e))
 exact Og (wpAny_letGo (Oi ⟨_,rfl,hQ g7 Z7 (J4.at λo e=>up _ o ne.symm e) (up _ _ (Nat.ne_of_gt zl) T4) (by rw[s7.1,s6.1,s5.1,z4]) λd o n1 n2 e=>up d o n1 (k4 d o n1 n2 e)⟩))
def Al (Z:NSt b z j l k s.heap) (C:CoK b s.heap l xs) (hx:xs[k]?=!x) (hQ:∀g,IsEnumOut g z j ((k:Int)+1) x s.heap.objs.size->ItK b g j l (k+1)->g.get? s.heap.objs.size=some {cls:=.type "tuple",data:=.seq #[.int k s.toks,x]}->g.objs.size=s.heap.objs.size+1->
   (∀d o,d≠z->d≠j->s.heap.get? d=!o->g.get? d=!o)->Q (!(.ref s.heap.objs.size)) {s with heap:=g,toks:=s.toks+1}):wpAny (!6) A (pyNext (.ref z)) Q E s:=by
 let⟨ne,⟨old,hz⟩,h1⟩:=Z
 have T:s.TypeIs (.ref z) "enumerate":=⟨_,hz,rfl⟩
 exact Og (wpAny_attempt (wpAny_callSpecial?_slot T F.slot_enumerate_next (wpAny_call_entry F.slot_enumerate_next T F.entry_enumerate_next
  (Ak hz h1 C hx ne λg a c d e f=>Oi (hQ g a c d e f)) (F.args_enumerate_next_1 _))))
def Am (hh:A.handled=none) (Z:NSt b z j l k s.heap) (C:CoK b s.heap l xs) (hx:xs[k]?=none) (hQ:∀g,Heap.ExtBut j s.heap g->Q none {s with heap:=g}):wpAny (!6) A (pyNext (.ref z)) Q E s:=by
 let⟨ne,⟨old,hz⟩,h1⟩:=Z;have T:s.TypeIs (.ref z) "enumerate":=⟨_,hz,rfl⟩;refine Og (wpAny_attempt (wpAny_callSpecial?_slot T F.slot_enumerate_next (wpAny_call_entry F.slot_enumerate_next T F.entry_enumerate_next ?_ (F.args_enumerate_next_1 _))));show wpAny _ _ (field (.ref z) 2>>=_) _ _ _;refine Og (wpAny_field hz rfl rfl (Og (j6 hh h1 C hx λg e q he=>?_)));let⟨o,ho,hc⟩:=he;exact Og (wpAny_isInstance ⟨o,ho,hc⟩ isSubtype_stop (Oi (hQ _ q)))
abbrev nG (h:Heap) (b:Bool) (l:Addr):Heap:=(h.push (aB b l)).push {cls:=.type "enumerate",data:=.fields #[.none,.bool false,.ref h.objs.size,rawInt 0,.none,.none]}
def DJ (b:Bool) (l:Addr) (xs:Ob):Meets (Builtin.«enumerate.__new__» ⟨[.type "enumerate",.ref l],[]⟩) (λ_ R s=>CoK b s.heap l xs/\
   R (.ok (.ret (.ref (s.heap.push (aB b l)).objs.size))) {s with heap:=nG s.heap b l}):=
 .of_wp λprog w A R s h=>by
  cases s with
  |mk hp gn dr tk os=>
  let⟨c0,h⟩:=h;have hsub:=sub_enumerate;have C:CoK b (Shared.heap ⟨hp,gn,dr,tk,os⟩) l xs:=c0;wp_walk using sK C;refine wpAny_stack_any λst=>Oi ?_;split
  .rename_i c _ _ _ _ _;cases(c==Value.type "enumerate")<;>(wp_walk using sK C;exact⟨_,rfl,h⟩)
  .wp_walk using sK C;exact⟨_,rfl,h⟩
def An (C:CoK b s.heap l xs) (h:∀g,NSt b (!13) s.heap.objs.size l 0 g->g.objs.size=s.heap.objs.size+2->(∀d o,s.heap.get? d=!o->g.get? d=!o)->Q (.ref (!13)) {s with heap:=g}):
  wpAny (!6) A (call (.type "enumerate") [.ref l]) Q E s:=by
 refine callType_new F.called_enumerate (!5) (F.typeCall_enumerate_1 _) (F.newCall_enumerate_1 _) (λobj=>F.args_object_init_2 obj _) F.entry_enumerate_new (DJ b l xs) ⟨C,?_⟩
 have z1:(s.heap.push (aB b l)).objs.size=s.heap.objs.size+1:=Heap.size_push ..
 have g2:IsEnum (nG s.heap b l) (!13) s.heap.objs.size 0 .none:=by
  have:=Ol (s.heap.push (aB b l)) (o:={cls:=.type "enumerate",data:=.fields #[.none,.bool false,.ref s.heap.objs.size,rawInt 0,.none,.none]}) rfl;rw[z1]at this;exact this
 have fb:(aB b l).isFreed=false:=by cases b<;>rfl
 have g1:(nG s.heap b l).get? s.heap.objs.size=!_:=Oh _ (Ol _ fb)
 have i1:ItK b (nG s.heap b l) s.heap.objs.size l 0:=by cases b<;>exact⟨_,g1,rfl,rfl⟩
 rw[z1]
 exact⟨⟨_,g2,rfl⟩,h _ ⟨Nat.succ_ne_self _,⟨_,g2⟩,i1⟩ (by rw[Heap.size_push,z1]) λd o x=>Oh _ (Oh _ x)⟩
end
def  Itn (K:Frag) (b:Bool) (l:Addr):It:=
 ⟨λi H=>∃xs x,SqK b K H l xs/\xs[i]?=!x,
  λi H v H'=>∃p x,v=.ref p/\H p=none/\H'=upd H p (.tup [.int i,x])/\∀xs,SqK b K H l xs->xs[i]?=!x,
  λi H=>∃xs,SqK b K H l xs/\xs.length<=i⟩
def NSt.live (Z:NSt b z j l k h) (hd:d∈[z,j]):∃o,h.get? d=!o/\∀v,o.data≠.cell v:=by
 simp at hd;rcases hd with rfl|rfl
 .let⟨old,e⟩:=Z.hz;exact⟨_,e,λv q=>by cases q⟩
 .let⟨o,n,vs,e,_,dd,_⟩:=Z.h1.live;exact⟨o,e,λv q=>by rw[dd]at q;cases q⟩
def Ao {P:Program} {w:World} {K:Frag} {elts:Od} {x1:Nat} {tpos:Pos} (b:Bool) (l z j:Addr):
  Turn P w K (.Tuple elts x1 tpos) (Itn K b l) [z,j] z (λi h=>NSt b z j l i h) where
 mem:=by simp
 obj:=λi h Z d hd=>Z.live hd
 keep:=λi h h' Z k=>by
  let⟨old,e⟩:=Z.hz;exact⟨Z.ne,⟨old,k z (by simp) _ e⟩,Z.h1.at λo q=>k j (by simp) o q⟩
 item:=by
  intro X hP hw hK hc i pins s σ H E I hf Z hg;subst hP hw hK;let⟨xs,x,hx,ex⟩:=hg;let⟨its,rv,p1,_⟩:=I.coK hx;let⟨u,hu,ru⟩:=rv.get ex;refine Al Z p1 (by simpa using hu) λh' Z' J' T' sz k'=>⟨_,rfl,?_⟩;refine wpAny_letOwnedTupleGo_enum Z' λh2 hz2 sb=>?_;let⟨old,hz⟩:=Z.hz;have zlt:=Oj hz;have Z2:NSt b z j l (i+1) h2:=⟨Z.ne,⟨_,by rw[show((i+1:Nat):Int)=(i:Int)+1 from rfl];exact hz2⟩,J'.at λo q=>sb.extBut _ _ Z.ne.symm q⟩;have T2:=sb.extBut _ _ (Nat.ne_of_gt zlt) T';have kk:∀d o,d ∉ [z,j]->s.heap.get? d=!o->h2.get? d=!o:=λd o hd e=>by
   simp at hd;exact sb.extBut _ _ hd.1 (k' d o hd.1 hd.2 e)
  have fr:=I.hok.fresh (OF _);refine⟨.ref s.heap.objs.size,_,I.turnedNew hf kk (OF _) ?_,rfl,⟨s.heap.objs.size,x,rfl,fr,rfl,λzs hzs=>by rw[I.coK_inj hzs hx];exact ex⟩,Z2,λd hd=>?_⟩
  .exact⟨by show 2<=sizeLine;decide,[.int i s.toks,u],.cons ⟨_,rfl⟩ (.cons ru .nil),⟨_,T2,rfl,_,rfl⟩⟩
  .let⟨o,eo,_⟩:=Z.live hd;rw[ae (Nat.ne_of_lt (Heap.lt_size eo))];exact(hf d hd).1
 done:=by
  intro X hP hw hK hc i pins s σ H E I hf Z hg;subst hP hw hK;let⟨xs,hx,hl⟩:=hg;let⟨its,rv,p1,_⟩:=I.coK hx;have e1:=rv.length;refine Am (I.ok.hd hc) Z p1 (by simp;omega) λh' k'=>⟨rfl,I.turnedL hf λd o hd e=>?_⟩;simp at hd;exact k' d o hd.2 e
 self:=λ_ _ _ _ _ Z h=>by
  let⟨old,e⟩:=Z.hz;exact wpAny_pyIter_enum e h
section
variable {X:Cx} {tg a b e:Expr} {es:Od} {p pos:Pos}
def Ha:bootBuiltins "enumerate"=!(.type "enumerate"):=by decide+kernel
def  MC (K:Frag) (ta:TA):TI:=λσ H R=>ta σ H λvs H1=>∃b l xs,vs=[.ref l]/\SqK b K H1 l xs/\R (Itn K b l) H1
def Hb {x1} (hg:Gl X "enumerate") (hm:X.mg "enumerate"=none) (ha:PA X [a] ta) (hs:starEach [a] X.env=[(false,eval a X.env)]):
  PI X (.Tuple elts x1 tpos) (.Call (.Name "enumerate" p) [a] [] pos) (MC X.K ta):=by
 intro pins s σ H R I h
 refine Call_ (cE I hg hm Ha (PyProof.Rows.callWith_type1 (thn (ha pos pins s σ H _ I h) λus s1 ⟨vs,H1,I1,r1,q1⟩=>?_) (by rw[hs];rfl) (by rfl)))
 let⟨b,l,xs,e,hx,q⟩:=q1
 subst e
 let⟨u,rfl,ru⟩:=gq r1
 cases ru
 let⟨its,rx,p1,_⟩:=I1.coK hx
 refine An p1 λh' Z sz k=>?_
 let⟨old,hz⟩:=Z.hz
 refine wpAny_pyIter_enum hz ?_
 have I2:Inv X pins σ H1 {s1 with heap:=h'}:=I1.kept k
 refine⟨s1.heap.objs.size+1,[s1.heap.objs.size+1,s1.heap.objs.size],_,_,H1,rfl,I2,Ao b l _ _,Z,λd hd=>?_,q⟩
 have hge:s1.heap.objs.size<=d:=by
  simp at hd;rcases hd with rfl|rfl<;>first|exact Nat.le_add_right _ _|exact OF _
 exact I1.fpOk hge (I1.hok.fresh hge)
noncomputable def  lq (xs:Oc):Oc:=xs.zipIdx.map λp=>.tup [.int (p.2:Nat),p.1]
def Ap {K} {b} (hx:SqK b K Hm l xs) (il:IsL K Hm ds xs):mQ K Hm (Itn K b l) (lq ds):=λi H O s hd=>by
 have hx':=hx.mono (s.trans msk_le);refine⟨λd hi=>?_,λhi=>⟨xs,hx',?_⟩⟩
 .unfold lq at hi;rw[getElem?_map,List.getElem?_zipIdx]at hi;cases e:ds[i]? with
  |none=>rw[e]at hi;cases hi
  |some d1=>
   rw[e]at hi;cases hi;let⟨x,ex,ix⟩:=il.get e;refine⟨⟨xs,x,hx',ex⟩,?_⟩;rintro v H3 ⟨q,x',rfl,hq,rfl,kx⟩;have z1:=kx xs hx';rw[ex]at z1;cases z1;have hO:=fH hd hq;refine⟨Same.new hq,q,[.int i,x],rfl,.of (by rw[aA hO,ai]),?_⟩;have le:Same (msk O H) (msk O (upd H q (.tup [.int i,x]))):=(Same.new hq).msk;exact⟨.int i,[x],rfl,by show V.int _=V.int _;simp,x,[],rfl,Is.mono (s.trans le) _ _ ix,rfl⟩
 .have h1:=il.len;unfold lq at hi;rw[length_map,List.length_zipIdx]at hi;omega
def  wA:Oc->N3:=un1 λc=>(seqD c).bind λxs=>!(lq xs)
def Hc {x1} (hg:Gl X "enumerate") (hm:X.mg "enumerate"=none) (ha:PX X [a] fa) (hs:starEach [a] X.env=[(false,eval a X.env)]):
  PJ X (.Tuple elts x1 tpos) (.Call (.Name "enumerate" p) [a] [] pos) (λY=>(fa Y).bind wA):=λO Y=>(Hb hg hm (ha O Y) hs).imp λσ H R ⟨E,ds,q,k⟩=>by
 let⟨as,e1,q⟩:=OH q
 refine⟨E,as,e1,λvs H1 s1 il=>?_⟩
 let⟨c,rfl,q1⟩:=bh q
 let⟨xs,q2,q3⟩:=OH q1
 cases q3
 let⟨u,rfl,iu⟩:=is1 il
 let⟨l1,us,rfl,t1,m1⟩:=f7 q2 iu
 let⟨b1,t1⟩:=uN t1
 exact⟨b1,l1,us,rfl,t1.mono msk_le,k _ H1 s1 (Ap t1 m1)⟩
end
section
variable {X:Cx} {a b:Expr} {pos:Pos}
def  Kb (K:Frag):R2:=λx y H Q=>∃l m xs zs,x=.ref l/\y=.ref m/\SqL K H l xs/\SqL K H m zs/\xs.length+zs.length<=sizeLine/\∀p,H p=none->Q (.ref p) (upd H p (.lst (xs++zs)))
def DK:OpR X (binaryOp .Add) (Kb X.K):=by
 intro pins s σ H x y v u Q I rx ry h;let⟨l,m,xs,zs,rfl,rfl,h1,h2,hz,q⟩:=h;cases rx;cases ry;let⟨its,r1,⟨⟨c1,d1,t1,s1⟩,n1,e1,k1,_,w1⟩,_⟩:=I.list h1;let⟨jts,r2,⟨⟨c2,d2,t2,s2⟩,n2,e2,k2,_,w2⟩,_⟩:=I.list h2;subst k1 w1 k2 w2;have hl1:=r1.length;have hl2:=r2.length;refine concat_meets ⟨_,e1,rfl⟩ ⟨_,e2,rfl⟩ noFill_list_add seq_list_add PySem.F.slot_list_add PySem.F.entry_list_add (PySem.F.args_list_add_2 _ _) (list_addW l m its.toArray jts.toArray n1 n2 d1 d2 s1 s2 (by rw[size_toArray,size_toArray];omega)) ⟨e1,e2,?_⟩;rw[show its.toArray++jts.toArray=(its++jts).toArray by simp];exact⟨.ref _,_,I.lnew (r1.append r2) (by rw[length_append];omega),rfl,q _ I.fresh⟩
def  MD (d e:D):N3:=(jp d).bind λxs=>(jp e).bind λys=>bx (!(xs++ys))
def  mY (fa fb:wp):dl:=λY=>(fa Y).bind λx=>(fb Y).bind λy=>MD x y
def Hd (ha:PP X a fa) (hb:PP X b fb):PF X (.BinOp a .Add b pos) (mY fa fb):=λO Y=>(Fc DK (ha O Y) (hb O Y)).imp λσ H Q ⟨E,ds,q,k⟩=>by
 let⟨dx,e1,q⟩:=OH q;let⟨dy,e2,q⟩:=OH q;let⟨xs,f1,q⟩:=OH q;let⟨ys,f2,q⟩:=OH q;let⟨g1,g2⟩:=cF q;cases g1;refine⟨E,dx,e1,λx H1 s1 i1=>⟨E.grow s1,dy,e2,λy H2 s2 i2=>?_⟩⟩;let⟨l,us,rfl,t1,l1⟩:=bS f1 (Is.mono s2.msk dx x i1);let⟨m,ws,rfl,t2,l2⟩:=bS f2 i2;refine⟨l,m,us,ws,rfl,rfl,msk_le.seq t1,msk_le.seq t2,?_,λp hp=>k p _ H2 (s1.trans s2) hp (l1.app l2)⟩;rw[length_append]at g2;rw[<-l1.len,<-l2.len];exact OC g2
end
def DL:typeLookup (.type "list_reverseiterator") "__len__"=pure none:=by constructor<;>grind
def Aq:typeLookup (.type "list_reverseiterator") "__length_hint__"=pure (!(.builtin "list_reverseiterator.__length_hint__")):=by constructor<;>grind
section
variable {prog:Program} {w:World} {A:Around} {E:N4} {s:Shared}
def Ar (J:s.heap.IsRevIter j l i) (h:Q false s):wpAny (!6) A (Builtin.List.listLengthHint (.ref j)) Q E s:=by
 refine Og (wpAny_specialOf J.typeIs DL ?_);refine Og (wpAny_specialOf J.typeIs Aq ?_);generalize hid:("list_reverseiterator.__length_hint__":String)=id0;wp_delta;rw[show splitId id0=some ("list_reverseiterator","__length_hint__")from by subst hid;decide+kernel];subst hid;refine Og (wpAny_isInstance (b:=true) J.typeIs (by rw[isSubtype_type];kernel_rfl) ?_);refine wpAny_ite_split (λhab=>absurd hab (!5)) (λ_=>?_);refine wpAny_ite_split (λ_=>?_) (λhab=>absurd (!19) hab);refine wpAny_ite_split (λhab=>absurd hab (!19)) (λ_=>?_);exact Oi h
def DM (hh:A.handled=none) (J:s.heap.IsRevIter j l ((xs.size:Int)-1)) (C:s.heap.IsList l xs) (ne:l≠j) (hS:s.heap.get? S=some {cls:=.type "list",data:=.seq #[] c₀}) (nj:S≠j) (nl:S≠l) (hn:xs.size<=sizeLine) (hR:∀g tk acc c,(∀d o,d≠S->d≠j->s.heap.get? d=!o->g.get? d=!o)->g.get? S=some {cls:=.type "list",dict:=none,data:=.seq acc c,slots:=#[]}->
   ItemsOf (λi v=>xs[xs.size-1-i]?=!v) acc xs.size->R (.ok (.ret res)) {s with heap:=g,toks:=tk}):
  wpAny (!6) A.in1 (Builtin.List.listExtendWith (.ref S) (.ref j) res)
   (λfin s'=>match fin with|.done f=>R (.ok f) s'|.again c'=>c'.quiet=true/\codeAny (!6) A c' R s') (λe s'=>R (.error e) s') s:=by
 have W:=(Walks.listRev (prog:=prog) (w:=w) (A:=A.in1) hh j l ne xs).toS
 refine Og (wpAny_typeOf J.typeIs ?_)
 have h1:Builtin.List.listSameRef (.ref S) (.ref j)=false:=by simp[Builtin.List.listSameRef,nj]
 have h2:(Value.type "list_reverseiterator"==Value.type "list")=false:=by decide
 have h3:(Value.type "list_reverseiterator"==Value.type "tuple")=false:=by decide
 simp only[h1,h2,h3,Bool.or_false,Bool.false_eq_true,if_false]
 refine Og (wpAny_pyIter_revIter J (Og (wpAny_holding (Ar J ?_))))
 refine wpAny_ite_split (λhab=>absurd hab (!19)) (λ_=>Oi ⟨plainId_quiet F.plain_extend_loop _,?_⟩)
 refine codeAny_extend_loopS W hn S (by simp[nj,nl]) res xs.size 0 _ #[] c₀ rfl (Nat.zero_le _) ⟨Nat.zero_le _,by simpa using J,C⟩ hS (ItemsOf.nil _) λs' acc c hm hS' hacc=>?_
 rw[Moved.eq_with hm]
 exact hR s'.heap s'.toks acc c (λd o n1 n2 e=>hm.heap d o (by simp[n1,n2]) e) hS' hacc
def ya {xs acc:Ob} (h:ItemsOf (λi v=>xs[xs.size-1-i]?=!v) acc xs.size):acc.toList=xs.toList.reverse:=by
 apply List.ext_getElem?;intro i;by_cases hi:i<xs.size
 .have h1:i<acc.size:=by rw[h.1];exact hi
  have e:=h.2 i _ (Array.getElem?_eq_getElem h1);rw[List.getElem?_reverse (by simpa using hi),Array.getElem?_toList,Array.getElem?_toList,Array.getElem?_eq_getElem h1,<-e];simp
 .rw[List.getElem?_eq_none (by rw[Array.length_toList,h.1];omega),List.getElem?_eq_none (by rw[List.length_reverse,Array.length_toList];omega)]
end
section
variable {X:Cx} {a:Expr} {p p2 pos pos2:Pos}
def Fo:bootBuiltins "reversed"=!(.type "reversed"):=by decide+kernel
def Kc:bootBuiltins "list"=!(.type "list"):=by decide+kernel
def IsL.rev {K}:∀ {ds:Oc} {xs:List V},IsL K H ds xs->IsL K H ds.reverse xs.reverse
 |[],xs,h=>by cases h;rfl
 |d::ds,xs,⟨x,r,e,h,l⟩=>by
  subst e;rw[List.reverse_cons,List.reverse_cons];exact(IsL.rev l).app ⟨_,_,rfl,h,rfl⟩
end
def yb (l:Addr) (xs:Ob) (n:Nat) (m:Addr) (ys:Ob) (k:Nat) (dd:Option Addr) (sl:Array (N6)) (hc0:¬(not xs.isEmpty&&Builtin.List.listTooLong (xs.size+ys.size))=true) (hc1:xs.size<=sizeLine) (hs2:xs.size+ys.size<=sizeLine+1):
  Meets (Builtin.«list.extend» ⟨[.ref l,.ref m],[]⟩) (λ_ R s=>s.heap.get? l=some {cls:=.type "list",dict:=none,data:=.seq xs n,slots:=#[]}/\s.heap.get? m=some {cls:=.type "list",dict:=dd,data:=.seq ys k,slots:=sl}/\R (.ok (.ret Value.none)) {s with heap:=s.heap.update l (Obj.mapSeq λx=>x++ys),toks:=s.toks}):=
 .of_wp λprog w A R s h=>by
  let⟨hl,hb,h⟩:=h;wp_walk using (wpAny_updateSeq hl rfl),AutoSeq1.wpAny_loadPart' hl,AutoSeq1.wpAny_loadPart' hb;exact⟨_,rfl,h⟩
def  Kd (K:Frag):V->List V->Hp->VK->Prop:=λx vs H Q=>∃l m xs zs,x=.ref l/\vs=[.ref m]/\H l=!(.lst xs)/\SqL K H m zs/\xs.length+zs.length<=sizeLine/\Q .non (upd H l (.lst (xs++zs)))
def qR:MtM X "list.extend" (Kd X.K):=by
 intro pins s σ H x vs v us Q I rx rv h;let⟨l,m,xs,zs,rfl,rfl,hH,hB,hz,q⟩:=h;cases rx;let⟨u,rfl,ru⟩:=rv.one;cases ru;let⟨z,its,n,r,hl,e⟩:=I.lstM hH;let⟨jts,r2,⟨⟨c2,d2,t2,s2⟩,n2,e2,k2,_,w2⟩,_⟩:=I.list hB;subst k2 w2;have hl2:=r2.length;have hsz:its.toArray.size+jts.toArray.size<=sizeLine:=by rw[size_toArray,size_toArray];omega
 have hlong:¬ (not its.toArray.isEmpty&&Builtin.List.listTooLong (its.toArray.size+jts.toArray.size))=true:=by
  rw[zy hsz,Bool.and_false];exact Om
 refine call_meets F.slot_list_extend ⟨_,e,rfl⟩ F.entry_list_extend (F.args_list_extend_2 _ _) (yb l its.toArray n m jts.toArray n2 d2 s2 hlong (by rw[size_toArray];omega) (!1)) ⟨e,e2,?_⟩;refine⟨.non,_,I.lset hH e (by simp) (r.append r2) ?_,rfl,q⟩;grind
noncomputable def  extS (d:D):Sl:=if lfD d then(.deep,d)else(.sh,d)
def  extC:Cat->Oc->Cat
 |c,[]=>c
 |c,d::ds=>extC (newCat c (extS d)) ds
section
variable {K:Frag} {B:Bs}
def EnvOk.moreS (E:EnvOk K B O σ H Y) (h:Is K (msk O H) d v):EnvOk K B O (σ++[!v]) H (Y++[!(extS d)]):=by
 unfold extS;split
 .rename_i f;exact E.more (A:=[]) (Same.refl _) (Same.refl _) (λ_ h=>.inl h) (λ_ h=>h) (λ_ h=>(nomatch h)) (λ_ h=>(nomatch h)) List.nodup_nil (λ_ h=>(nomatch h)) (Is.deep d v f h)
 .exact E.moreSh h
def j8 (c:Cat) (s:Sl):newCat c s≠.sh:=by unfold newCat;split<;>intro z<;>cases z
def As (h:H a=!o):upd H a o=H:=by
 funext b;by_cases e:b=a
 .subst e;rw[ai,h]
 .rw[ae e]
def EnvOk.extend {i:Nat}:∀ {es:Oc} {zs:List V} {O:Oa} {H:Hp} {Y:Ev} {c:Cat} {ds:Oc},EnvOk K B O σ H Y->Y[i]?=!(!(c,.lst ds))->c≠.sh->IsL K (msk O H) es zs->
  ∃a xs,σ[i]?=!(!(.ref a))/\H a=!(.lst xs)/\ds.length=xs.length/\∃O',EnvOk K B O' σ (upd H a (.lst (xs++zs))) (Y.set i (!(extC c es,.lst (ds++es))))/\Same (msk O H) (msk O' (upd H a (.lst (xs++zs))))
 |[],zs,O,H,Y,c,ds,E,h,hc,l=>by
  have l':zs=[]:=l;subst l';let⟨a,xs,e1,e2,e3,_⟩:=E.ownAt h hc;refine⟨a,xs,e1,e2,e3,O,?_,?_⟩
  .rw[List.append_nil,List.append_nil,As e2];show EnvOk K B O σ H (Y.set i (!(c,.lst ds)));rw[show Y.set i (!(c,D.lst ds))=Y from by
    let⟨hi,e⟩:=List.getElem?_eq_some_iff.mp h;rw[<-e];exact List.set_getElem_self hi]
   exact E
  .rw[List.append_nil,As e2];exact Same.refl _
 |d::es,zs,O,H,Y,c,ds,E,h,hc,l=>by
  let⟨z,r,rfl,hz,l⟩:=l;let⟨a,xs,e1,e2,e3,O1,E1,s1⟩:=(E.moreS hz).change fK Ah Ai h hc;have hi:=(On.mp h).1;have h2:(Y.set i (!(newCat c (extS d),.lst (fK ds (extS d).2))))[i]?=!(!(newCat c (extS d),.lst (fK ds (extS d).2))):=by rw[List.getElem?_set_self hi]
  let⟨a',xs',f1,f2,f3,O2,E2,s2⟩:=EnvOk.extend E1 h2 (j8 _ _) (IsL.mono s1 _ _ l);rw[e1]at f1;cases f1;rw[ai]at f2;cases f2;rw[CG]at E2 s2;rw[List.set_set]at E2;have ed:(extS d).2=d:=by unfold extS;split<;>rfl
  rw[ed]at E2;unfold fK at E2 s1 s2;rw[List.append_assoc,List.append_assoc]at E2;rw[List.append_assoc]at s2;exact⟨a,xs,e1,e2,e3,O2,E2,s1.trans s2⟩
end
section
variable {X:Cx} {e:Expr} {pos:Pos}
def  qS (i:Nat) (R:wp):Cl:=λY=>(ownL Y i).bind λw=>(R (shv Y)).bind λd=>(jp d).bind λes=>if w.2.length+es.length<big then !(.nx (Y.set i (!(extC w.1 es,.lst (w.2++es)))))else none
def uZ (i:Nat) (h:PP X e R) (hN:X.N[i]?=!x) (hv:Vis X.env.scope x) (hd:(!7)=false) (hcd:(!12)=false) (hst:starEach [e] X.env=(false,eval e X.env)::starEach [] X.env) (hline:(apos.endLine==cpos.line)=true):PR X (.Expr (.Call (.Attribute (!18) "extend" apos) [e] [] cpos) pos) (qS i R):=λB O Y=>
 (eF (kW PySem.F.plainAttrs_list PySem.F.slot_list_extend PySem.F.type_list_extend qR (bT hN hv hd hcd) (bq (h O _) pa_nil hst) rfl (by rw[hst];rfl) hline hst rfl)).imp λEn σ H ⟨E,o,q,k⟩=>by
 let⟨⟨c,ds⟩,q1,q⟩:=OH q;let⟨d,q2,q⟩:=OH q;let⟨es,q3,q⟩:=OH q;let⟨hz,q⟩:=ar q;subst q;let⟨h0,hc0⟩:=bJ q1;let⟨a,xs0,e1,r3,_⟩:=E.ownAt h0 hc0;refine⟨.ref a,e1,.inl ⟨rfl,_,SqL.of r3⟩,E.viewS,d,q2,λv H1 s1 i1=>?_⟩;let⟨m,zs,rfl,t,l⟩:=bS q3 i1;let⟨a',xs,e2,r4,hl,O2,E2,s2⟩:=(E.grow s1).extend h0 hc0 l;rw[e1]at e2;cases e2;exact⟨a,m,xs,zs,rfl,rfl,r4,msk_le.seq t,by rw[<-hl,<-l.len,f6];exact OC hz,k σ _ O2 (s1.msk.trans s2) E2⟩
def  DN (i:Nat) (R:wp):Cl:=λY=>(ownL Y i).bind λw=>(R (vw Y)).bind λd=>(jp d).bind λes=>if w.2.length+es.length<big/\lfL es=true then !(.nx (Y.set i (!(extC w.1 es,.lst (w.2++es)))))else none
def u4 (i:Nat) (h:PP X e R) (hN:X.N[i]?=!x) (hv:Vis X.env.scope x) (hd:(!7)=false) (hcd:(!12)=false) (hst:starEach [e] X.env=(false,eval e X.env)::starEach [] X.env) (hline:(apos.endLine==cpos.line)=true):PR X (.Expr (.Call (.Attribute (!18) "extend" apos) [e] [] cpos) pos) (DN i R):=λB O Y=>
 (eF (kW PySem.F.plainAttrs_list PySem.F.slot_list_extend PySem.F.type_list_extend qR (bT hN hv hd hcd) (bq (h noO (vw Y)) pa_nil hst) rfl (by rw[hst];rfl) hline hst rfl)).imp λEn σ H ⟨E,o,q,k⟩=>by
 let⟨⟨c,ds⟩,q1,q⟩:=OH q;let⟨d,q2,q⟩:=OH q;let⟨es,q3,q⟩:=OH q;let⟨⟨hz,lf⟩,q⟩:=ar q;subst q;let⟨h0,hc0⟩:=bJ q1;let⟨a,xs0,e1,r3,_⟩:=E.ownAt h0 hc0;refine⟨.ref a,e1,.inl ⟨rfl,_,SqL.of r3⟩,E.view,d,q2,λv H1 s1 i1=>?_⟩;let⟨m,zs,rfl,t,l⟩:=bS q3 i1;let⟨a',xs,e2,r4,hl,O2,E2,s2⟩:=(E.grow s1).extend h0 hc0 (IsL.nl (E.grow s1).nl _ _ lf l.full);rw[e1]at e2;cases e2;exact⟨a,m,xs,zs,rfl,rfl,r4,msk_le.seq t,by rw[<-hl,<-l.len,f6];exact OC hz,k σ _ O2 (s1.msk.trans s2) E2⟩
def  gx (i:Nat) (R:wp):Cl:=orO (qS i R) (DN i R)
def yc (i:Nat) (h:PP X e R) (hN:X.N[i]?=!x) (hv:Vis X.env.scope x) (hd:(!7)=false) (hcd:(!12)=false) (hst:starEach [e] X.env=(false,eval e X.env)::starEach [] X.env) (hline:(apos.endLine==cpos.line)=true):PR X (.Expr (.Call (.Attribute (!18) "extend" apos) [e] [] cpos) pos) (gx i R):=
 gK (uZ i h hN hv hd hcd hst hline) (u4 i h hN hv hd hcd hst hline)
end
def slot_rt_next:Slot "reversed" "__next__" "reversed.__next__":=
 .of (owner:="reversed") (n:="__next__") (by rw[typeLookup_type,builtinLookup_eq_fast];kernel_rfl) (!19) (!19) (!19)
  (by first|exact .inl (!19)|exact .inr (!19)) (by rw[isSubtype_type];kernel_rfl)
def iO:entryFor table "reversed.__next__"=some Builtin.«reversed.__next__»:=entryFor_of_tree (!2)
def ju (a:Value):argsOk "reversed.__next__" ⟨[a],[]⟩:=by unfold argsOk;kernel_rfl
def jv:Slot "reversed" "__iter__" "reversed.__iter__":=
 .of (owner:="reversed") (n:="__iter__") (by rw[typeLookup_type,builtinLookup_eq_fast];kernel_rfl) (!19) (!19) (!19)
  (by first|exact .inl (!19)|exact .inr (!19)) (by rw[isSubtype_type];kernel_rfl)
def qT (a:Value):argsOk "reversed.__iter__" ⟨[a],[]⟩:=by unfold argsOk;kernel_rfl
def oH:entryFor table "reversed.__iter__"=some Builtin.«dict_keyiterator.__iter__»:=
 entryFor_alias (id':="dict_keyiterator.__iter__") (!2) (by first|rfl|decide+kernel|(unfold String.splitOn;simp+decide [String.splitOnAux])) (!19) (!2)
def qU:Slot "reversed" "__init__" "object.__init__":=
 .of (owner:="object") (n:="__init__") (by rw[typeLookup_type,builtinLookup_eq_fast];kernel_rfl) (!19) (!19) (!19)
  (by first|exact .inl (!19)|exact .inr (!19)) (by rw[isSubtype_type];kernel_rfl)
def called_rt:TypeCalled "reversed" "reversed.__new__" "object.__init__":=
 ⟨by decide+kernel,by decide+kernel,⟨_,_,F.mro_reversed⟩,F.made_reversed,by decide+kernel,by rw[isSubtype_type];kernel_rfl,qU⟩
def yd:typeLookup (.type "tuple") "__reversed__"=pure none:=by constructor<;>grind
def u5:isSubtype (.type "tuple") (.type "dict")=pure false:=by rw[isSubtype_type];kernel_rfl
noncomputable def  rtO (t:Addr) (i:Int):Obj:={cls:=.type "reversed",data:=.fields #[.ref t,rawInt i]}
def  IsRT (h:Heap) (a t:Addr) (i:Int):Prop:=∃o,h.get? a=!o/\o.cls=.type "reversed"/\o.data=.fields #[.ref t,rawInt i]
section
variable {prog:Program} {w:World} {A:Around} {E:N4} {s:Shared}
def IsRT.typeIs (x:IsRT s.heap a t i):s.TypeIs (.ref a) "reversed":=let⟨o,ho,hc,_⟩:=x;⟨o,ho,hc⟩
def IsRT.at (x:IsRT h a t i) (e:∀o,h.get? a=!o->h'.get? a=!o):IsRT h' a t i:=let⟨o,ho,r⟩:=x;⟨o,e _ ho,r⟩
def DO (ht:IsTup s.heap t items):s.TypeIs (.ref t) "tuple":=let⟨o,ho,hc,_⟩:=ht;⟨o,ho,hc⟩
def sO (ht:IsTup s.heap t items) (hz:items.size<=sizeLine) (h:∀tk,Q₁ (.ref s.heap.objs.size) {s with heap:=s.heap.push (rtO t ((items.size:Int)-1)),toks:=tk}):
  codeAny (!6) A (.call (.builtin "reversed.__new__") ⟨[.type "reversed",.ref t],[]⟩) (wants Q₁ E) s:=by
 refine codeAny_of_tree ?_
 refine Og (Oy (F.newCall_reversed_1 _) (Oi ⟨plainId_quiet F.plain_reversed_new _,codeAny_builtin F.entry_reversed_new ?_⟩))
 refine Og (Oy (newClass_reversed _) ?_)
 refine Og (Oy (by first|rfl|kernel_rfl) ?_)
 refine Og (Oy (by first|rfl|kernel_rfl) ?_)
 refine Og (wpAny_specialOf (DO ht) yd ?_)
 refine Og ?_
 wp_delta
 refine Og (wpAny_isInstance (DO ht) u5 ?_)
 refine Og (wpAny_specialOf (DO ht) slot_tuple_getitem.lookup ?_)
 refine Oi ?_
 refine Og (len_tuple ht (by have:=iY;omega) ?_)
 refine Og (Oy rfl ?_)
 refine Og ?_
 show wpAny _ _ (newObj (.type "reversed") (.fields #[.ref t,rawInt ((items.size:Int)-1)])) _ _ _
 exact wpAny_newObj_type (Oi (h _))
def DP (ht:IsTup s.heap t items) (hz:items.size<=sizeLine) (h:∀tk,Q (.ref s.heap.objs.size) {s with heap:=s.heap.push (rtO t ((items.size:Int)-1)),toks:=tk}):wpAny (!6) A (call (.type "reversed") [.ref t]) Q E s:=by
 refine callType_codes (Q₁:=λobj s₁=>s₁.TypeIs obj "reversed"/\Q obj s₁) called_rt (F.typeCall_reversed_1 _) F.entry_object_init
  (sO ht hz λtk=>⟨⟨_,Ol _ rfl,rfl⟩,h tk⟩) λobj s₁ h₁=>?_
 exact⟨h₁.1,F.args_object_init_2 obj _,object_init_meets called_rt.init.lookup called_rt.made (!5) prog w A.in1 _ s₁ ⟨h₁.1,rfl,h₁.2⟩⟩
def wB (hit:IsRT s.heap it t i) (h:Q (.ref it) s):wpAny (!6) A (pyIter (.ref it)) Q E s:=by
 refine wpAny_pyIter_slot hit.typeIs jv (wpAny_call_entry jv hit.typeIs oH ?_ (qT _));exact Oi ⟨_,rfl,"reversed",_,hit.typeIs,slot_rt_next.lookup,h⟩
def DQ {i:Nat} (hit:IsRT s.heap it t (i:Int)) (ht:IsTup s.heap t items) (hz:items.size<=sizeLine) (hx:items[i]?=!x) (hQ:∀h' tk,IsRT h' it t ((i:Int)-1)->Heap.SameBut it s.heap h'->Q (!x) {s with heap:=h',toks:=tk}):wpAny (!6) A (pyNext (.ref it)) Q E s:=by
 let⟨o,ho,hc,hd⟩:=id hit;have hi:=(Array.getElem?_eq_some_iff.mp hx).1;have h63:=iY;refine Og (wpAny_attempt (wpAny_callSpecial?_slot hit.typeIs slot_rt_next
  (wpAny_call_entry slot_rt_next hit.typeIs iO ?_ (ju _))))
 refine Og (Oy rfl ?_);refine Og (wpAny_field ho hd (x:=.ref t) rfl ?_);refine Og (wpAny_field ho hd rfl ?_);refine Og (wpAny_specialOf (DO ht) slot_tuple_getitem.lookup ?_);refine Og (wpAny_mkInt ?_);refine Og (wpAny_attempt (getItem_tuple ht (!1) (!1) (by
  simp only[seqIndex?];rw[if_neg (show¬ ((i:Nat):Int)<0 by omega),if_pos (by rw[and_eq_true];exact⟨decide_eq_true (!1),decide_eq_true (!1)⟩)];rfl) hx ?_))
 refine Og (wpAny_field ho hd rfl ?_);refine Og (wpAny_setField ho hd (by simp) ?_);refine Oi ⟨x,rfl,Oi (hQ _ _ ?_ (Heap.SameBut.update ..))⟩;exact⟨_,Heap.get?_update_self _ ho (Obj.isFreed_of_fields (Obj.data_mapFields hd _)),(Obj.cls_mapFields ..).trans hc,by
  rw[Obj.data_mapFields hd];simp⟩
def He (hh:A.handled=none) (hit:IsRT s.heap it t (-1)) (hQ:∀h',Heap.ExtBut it s.heap h'->Q none {s with heap:=h'}):wpAny (!6) A (pyNext (.ref it)) Q E s:=by
 let⟨o,ho,hc,hd⟩:=id hit
 refine Og (wpAny_attempt (wpAny_callSpecial?_slot hit.typeIs slot_rt_next
  (wpAny_call_entry slot_rt_next hit.typeIs iO ?_ (ju _))))
 refine Og (Oy rfl ?_)
 refine Og (wpAny_field ho hd (x:=.ref t) rfl ?_)
 refine Og (wpAny_field ho hd rfl ?_)
 refine Og (wpAny_rule ?_)
 refine Og ?_
 wp_delta
 refine Og (wpAny_setField ho hd (by simp) ?_)
 refine wpAny_setField (Heap.get?_update_self _ ho (Obj.isFreed_of_fields (Obj.data_mapFields hd _))) (Obj.data_mapFields hd _) (by simp) ?_
 obtain⟨H2,hH⟩:∃H2,H2=(s.heap.update it (Obj.mapFields λx=>x.setIfInBounds 1 (rawInt (-1)))).update it (Obj.mapFields λx=>x.setIfInBounds 0 Value.none):=⟨_,rfl⟩
 have hE:Heap.ExtBut it s.heap H2:=by
  rw[hH]
  exact(Heap.SameBut.update ..).extBut.trans (Heap.SameBut.update ..).extBut
 rw[<-hH]
 first
 |show wpAny _ _ (newExc (.type "StopIteration") []>>=_) _ _ _
 |(refine Og ?_;show wpAny _ _ (newExc (.type "StopIteration") []>>=_) _ _ _)
 refine Og ?_
 refine Og (wpAny_newObj_type ?_ (by size_fits))
 refine Og (Oy (by first|rfl|(simp only[firstArgMember];rfl)) ?_)
 refine wpAny_newObj_type ?_ (by size_fits)
 refine Og (wpAny_handled ?_)
 first|rw[show A.in1.handled=none from hh]|rw[hh]
 refine Og (Oi (wpAny_throw ?_))
 refine Og (wpAny_isInstance ⟨_,Ol _ rfl,rfl⟩ isSubtype_stop ?_)
 exact Oi (hQ _ ((hE.push _).push _))
noncomputable def  Itv (K:Frag) (a:Addr) (n:Nat):It:=
 ⟨λi H=>∃xs x,SqT K H a xs/\xs.length=n/\xs.reverse[i]?=!x,λi H x H'=>H'=H/\∀xs,SqT K H a xs->xs.reverse[i]?=!x,λi _=>n<=i⟩
def DR {P:Program} {w:World} {K:Frag} {tg:Expr} (a it:Addr) (n:Nat):Turn P w K tg (Itv K a n) [it] it (λi h=>IsRT h it a ((n:Int)-1-(min i n:Nat))) where
 mem:=by simp
 obj:=λi h st b hb=>by
  have e:b=it:=by simpa using hb
  subst e;let⟨o,e,c,d⟩:=st;exact⟨o,e,λv z=>by rw[d]at z;cases z⟩
 keep:=λi h h' st k=>st.at λo e=>k it (by simp) o e
 item:=by
  intro X hP hw hK hc i pins s σ H E I hf st hg;subst hP hw hK;let⟨xs,x,hq,hn,hx⟩:=hg;subst hn;let⟨its,rv,p,hz⟩:=I.tuple hq;have hi:i<xs.length:=by
   have:=(On.mp hx).1;rwa [List.length_reverse]at this
  have hl:=rv.length;rw[List.getElem?_reverse hi]at hx;let⟨u,hu,ru⟩:=rv.get hx;let⟨f0,f1,f2,f3,f4,f5⟩:=hf it (by simp);have ei:((xs.length:Nat):Int)-1-((min i xs.length:Nat):Int)=((xs.length-1-i:Nat):Int):=by omega
  have st:=ei▸st;refine DQ st p (by rw[size_toArray];omega) (by simpa using hu) λh' tk st' sb=>?_;have I1:Inv X pins σ H {s with heap:=h',toks:=tk}:=I.turned (λb o hb e=>(sb.2 b hb).trans e) f0 f1 f3 f4 f5;let⟨o,e,c,d⟩:=id st';refine⟨u,rfl,vX e c d (!5) ⟨x,H,I1,ru,⟨rfl,λys hy=>by rw[I.tuple_inj hy hq,List.getElem?_reverse hi];exact hx⟩,?_,λb hb=>(hf b hb).1⟩⟩;have ej:((xs.length-1-i:Nat):Int)-1=((xs.length:Nat):Int)-1-((min (i+1) xs.length:Nat):Int):=by omega
  exact ej▸st'
 done:=by
  intro X hP hw hK hc i pins s σ H E I hf st hg;have hg:n<=i:=hg;let⟨f0,f1,f2,f3,f4,f5⟩:=hf it (by simp);have ei:((n:Nat):Int)-1-((min i n:Nat):Int)= -1:=by omega
  exact He (I.ok.hd hc) (ei▸st) λh' eb=>⟨rfl,I.turned (λb o hb e=>eb b o hb e) f0 f1 f3 f4 f5⟩
 self:=λ_ _ _ _ _ st h=>wB st h
def DS {K} (q:SqT K Hm a xs) (il:IsL K Hm ds xs):mQ K Hm (Itv K a xs.length) ds.reverse:=λi H O s hd=>by
 have q':=(s.trans msk_le).seqT q;have ir:=il.rev;refine⟨λd hi=>?_,λhi=>?_⟩
 .let⟨x,hx,ix⟩:=ir.get hi;refine⟨⟨xs,x,q',rfl,hx⟩,λy H3 ⟨e,hy⟩=>?_⟩;subst e;have:=hy xs q';rw[hx]at this;cases this;exact⟨Same.refl _,Is.mono s d x ix⟩
 .show xs.length<=i;rw[<-il.len,<-List.length_reverse];exact hi
end
section
variable {X:Cx} {tg a:Expr} {p pos:Pos}
def  iRt (K:Frag) (ta:TA):TI:=λσ H R=>ta σ H λvs H1=>∃t xs,vs=[.ref t]/\SqT K H1 t xs/\R (Itv K t xs.length) H1
def Ke (hg:Gl X "reversed") (hm:X.mg "reversed"=none) (ha:PA X [a] ta) (hs:starEach [a] X.env=[(false,eval a X.env)]):PI X tg (.Call (.Name "reversed" p) [a] [] pos) (iRt X.K ta):=by
 intro pins s σ H R I h;refine wpAny_Call_Name_kw (cE I hg hm Fo (PyProof.Rows.callWith_type1 (thn (ha pos pins s σ H _ I h) λus s1 ⟨vs,H1,I1,r1,q1⟩=>?_) (by rw[hs];rfl) rfl));let⟨t,xs,rfl,hx,q⟩:=q1;let⟨u,rfl,ru⟩:=gq r1;cases ru;let⟨its,rv,pl,hz⟩:=I1.tuple hx;have hl:=rv.length;refine DP pl (by rw[size_toArray];omega) λtk=>?_;have J:IsRT (s1.heap.push (rtO t ((its.toArray.size:Int)-1))) s1.heap.objs.size t ((its.toArray.size:Int)-1):=⟨_,Ol _ rfl,rfl,rfl⟩;refine wB J ?_;refine⟨s1.heap.objs.size,[s1.heap.objs.size],_,_,H1,rfl,I1.kept λb o e=>Oh _ e,DR t _ xs.length,?_,λb hb=>?_,q⟩
 .have e:((xs.length:Nat):Int)-1-((min 0 xs.length:Nat):Int)=(its.toArray.size:Int)-1:=by rw[size_toArray,<-hl];omega
  rw[e];exact J
 .have e:b=s1.heap.objs.size:=by simpa using hb
  subst e;exact I1.fpOk (OF _) (I1.hok.fresh (OF _))
def  rvT:Oc->N3:=un1 λd=>(Gz d).bind λds=>!ds.reverse
def Kf (hg:Gl X "reversed") (hm:X.mg "reversed"=none) (ha:PX X [a] fa) (hs:starEach [a] X.env=[(false,eval a X.env)]):PJ X tg (.Call (.Name "reversed" p) [a] [] pos) (λY=>(fa Y).bind rvT):=
 λO Y=>(Ke hg hm (ha O Y) hs).imp λσ H R ⟨E,ds,q,k⟩=>by
 let⟨as,e1,q⟩:=OH q
 refine⟨E,as,e1,λvs H1 s1 il=>?_⟩
 let⟨c,rfl,q1⟩:=bh q
 let⟨es,q2,q3⟩:=OH q1
 cases q3
 let⟨v,rfl,iv⟩:=is1 il
 cases c with
 |tup fs=>
  cases q2;let⟨t,xs,rfl,h2,l2⟩:=iv;exact⟨t,xs,rfl,msk_le.seqT h2,k _ H1 s1 (DS h2 l2)⟩
 |_=>cases q2
end
open PySem.AutoSeq1 (wpAny_loadPart')
section
variable {prog:Program} {w:World} {A:Around} {E:N4} {s:Shared}
def sR (hh:A.handled=none) (J:s.heap.IsRevIter j l ((xs.size:Int)-1)) (C:s.heap.IsList l xs) (ne:l≠j) (hn:xs.size<=sizeLine) (hQ:∀ (g:Heap) tk acc,(∀d o,d≠j->s.heap.get? d=!o->g.get? d=!o)->s.heap.objs.size<=g.objs.size->ItemsOf (λi v=>xs[xs.size-1-i]?=!v) acc xs.size->Q acc.toList {s with heap:=g,toks:=tk}):wpAny (!6) A (collect (.ref j)) Q E s:=by
 have jl:j<s.heap.objs.size:=by let⟨o,e,_⟩:=J;exact Oj e
 have ll:l<s.heap.objs.size:=by let⟨o,e,_⟩:=C;exact Oj e
 have up:∀d o,s.heap.get? d=!o->(s.heap.push {cls:=.type "list",data:=.seq ([]:N5).toArray}).get? d=!o:=λd o e=>Oh _ e;have key:∀R:Result->Shared->Prop,(∀g tk acc c,(∀d o,d≠s.heap.objs.size->d≠j->(s.heap.push {cls:=.type "list",data:=.seq ([]:N5).toArray}).get? d=!o->g.get? d=!o)->g.get? s.heap.objs.size=some {cls:=.type "list",dict:=none,data:=.seq acc c,slots:=#[]}->
   ItemsOf (λi v=>xs[xs.size-1-i]?=!v) acc xs.size->R (.ok _) {s with heap:=g,toks:=tk})->codeAny (!6) A (.builtin "proto.collect" ⟨[.ref j],[]⟩) R s:=λR hR=>by
  refine codeAny_builtin F.entry_proto_collect ?_
  refine Og (wpAny_newObj_type ?_)
  refine Oi ⟨plainId_quiet F.plain_list_iadd _,codeAny_builtin F.entry_list_iadd ?_⟩
  exact DM hh (J.at λo e=>up _ o e) (C.at λo e=>up _ o e) ne (Ol s.heap rfl) (Nat.ne_of_gt jl) (Nat.ne_of_gt ll) hn λg tk acc c k hg hi=>hR g tk acc c k hg hi
 refine Og (wpAny_runValue (key _ λg tk acc c k hg hi=>?_));refine Og (wpAny_load hg ?_);exact Oi (hQ g tk acc (λd o n e=>k d o (Ow (Oj e)) n (up d o e)) (OC (Oj hg)) hi)
def ye (hh:A.handled=none) (J:s.heap.IsRevIter j l ((xs.size:Int)-1)) (C:s.heap.IsList l xs) (ne:l≠j) (hn:xs.size<=sizeLine) (hQ:∀ (g:Heap) tk acc,(∀d o,d≠j->s.heap.get? d=!o->g.get? d=!o)->s.heap.objs.size<=g.objs.size->ItemsOf (λi v=>xs[xs.size-1-i]?=!v) acc xs.size->Q (.ref g.objs.size) {s with heap:=g.push {cls:=.type "tuple",data:=.seq acc},toks:=tk}):
  wpAny (!6) A (call (.type "tuple") [.ref j]) Q E s:=by
 refine callType_codes (Q₁:=λobj s₁=>s₁.TypeIs obj "tuple"/\Q obj s₁) F.called_tuple (F.typeCall_tuple_1 _) F.entry_object_init ?_ λobj s₁ h₁=>?_
 .refine codeAny_of_tree ?_;show wpAny _ A.in1.in1 (do checkBuiltinCall "tuple.__new__" ⟨[.type "tuple",.ref j],[]⟩;again (.builtin "tuple.__new__" ⟨[.type "tuple",.ref j],[]⟩)) _ _ s;refine Og (Oy (F.newCall_tuple_1 _) (Oi ⟨plainId_quiet F.plain_tuple_new _,codeAny_builtin F.entry_tuple_new ?_⟩));rw[Around.under_plainId F.plain_tuple_new _];have hsub:=sub_tuple_self;have hinit:=init_tuple_lookup;have hmh:=madeHere_tuple;have hTI:=J.typeIs;have cr:∀ {Q:N5->Shared->Prop} {E:N4},(∀ (g:Heap) tk acc,(∀d o,d≠j->s.heap.get? d=!o->g.get? d=!o)->s.heap.objs.size<=g.objs.size->ItemsOf (λi v=>xs[xs.size-1-i]?=!v) acc xs.size->Q acc.toList {s with heap:=g,toks:=tk})->wpAny (!6) A.in1.in1 (collect (.ref j)) Q E s:=λhq=>sR (A:=A.in1.in1) hh J C ne hn hq;wp_walk using wpAny_typeOf hTI,cr;intro g tk acc k hle hacc;show wpAny _ _ (Builtin.Tuple.tupleExact acc.toList.toArray>>=λv=>ret v) _ _ _;unfold Builtin.Tuple.tupleExact;refine Og (wpAny_newObj_type ?_ (by show acc.toList.toArray.size<=sizeLine;simp only[Array.toArray_toList];rw[hacc.1];exact hn));refine Oi ?_;have e:acc.toList.toArray=acc:=by simp
  rw[e];exact⟨⟨_,Ol _ rfl,rfl⟩,hQ g tk acc k hle hacc⟩
 .exact⟨h₁.1,F.args_object_init_2 obj _,object_init_meets F.called_tuple.init.lookup F.called_tuple.made (!5) prog w A.in1 _ s₁ ⟨h₁.1,rfl,h₁.2⟩⟩
end
section
variable {X:Cx} {a:Expr} {p p2 pos pos2:Pos}
def  ME (K:Frag) (ta:TA):TE:=λσ H Q=>ta σ H λvs H1=>∃l xs,vs=[.ref l]/\SqL K H1 l xs/\∀q,H1 q=none->Q (.ref q) (upd H1 q (.tup xs.reverse))
def Kg:bootBuiltins "tuple"=!(.type "tuple"):=by decide+kernel
def Hf (hc:X.calm=true) (hg:Gl X "tuple") (hm:X.mg "tuple"=none) (hg2:Gl X "reversed") (hm2:X.mg "reversed"=none) (ha:PA X [a] ta) (hs:starEach [a] X.env=[(false,eval a X.env)]):
  PE X (.Call (.Name "tuple" p) [.Call (.Name "reversed" p2) [a] [] pos2] [] pos) (ME X.K ta):=by
 intro pins s σ H Q I h
 refine wpAny_Call_Name_kw (cE I hg hm Kg (PyProof.Rows.callWith_type1 ?_ rfl rfl))
 show wpAny _ _ (spliced ((false,eval (.Call (.Name "reversed" p2) [a] [] pos2) X.env)::[])) _ _ s
 refine Calls.spliced_cons ?_
 refine wpAny_Call_Name_kw (cE I hg2 hm2 Fo (PyProof.Rows.callWith_type1 (thn (ha pos2 pins s σ H _ I h) λus s1 ⟨vs,H1,I1,r1,q1⟩=>?_) (by rw[hs];rfl) rfl))
 let⟨l,xs,rfl,hx,q⟩:=q1
 let⟨u,rfl,ru⟩:=gq r1
 cases ru
 let⟨its,rv,pl,hz⟩:=I1.list hx
 have C:=pl.isList
 have ll:l<s1.heap.objs.size:=by let⟨o,e,_⟩:=C;exact Oj e
 refine call_reversed_list C (Calls.spliced_nil ?_)
 have up:∀d o,s1.heap.get? d=!o->(s1.heap.push (revObj l ((its.toArray.size:Int)-1))).get? d=!o:=λd o e=>Oh _ e
 have I2:Inv X pins σ H1 {s1 with heap:=s1.heap.push (revObj l ((its.toArray.size:Int)-1))}:=I1.kept up
 have hl:=rv.length
 refine ye (I1.ok.hd hc) ⟨_,Ol _ rfl,rfl,rfl⟩ (C.at λo e=>up _ o e) (Ow ll) (by rw[size_toArray];omega) λg tk acc k hsz hi=>?_
 have e:=ya hi
 have e2:acc=its.reverse.toArray:=by
  apply Array.toList_inj.mp;rw[e]
 have fr:=I2.hok.fresh hsz
 refine⟨.ref _,_,I2.turnedNew (ch:=[s1.heap.objs.size]) (λb hb=>?_) (λb o hb e=>Oh _ (k b o (by simpa using hb) e)) hsz ?_,rfl,q _ fr⟩
 .rw[mem_singleton.mp hb];exact I1.fpOk (OF _) (I1.hok.fresh (OF _))
 .rw[e2];exact⟨by rw[List.length_reverse];exact hz,its.reverse,rv.reverse,IsTup.new _ _⟩
def  Hg:Oc->Oe:=un1 λd=>(jp d).bind λds=>!(.tup ds.reverse)
def Hh (hc:X.calm=true) (hg:Gl X "tuple") (hm:X.mg "tuple"=none) (hg2:Gl X "reversed") (hm2:X.mg "reversed"=none) (ha:PX X [a] fa) (hs:starEach [a] X.env=[(false,eval a X.env)]):
  PP X (.Call (.Name "tuple" p) [.Call (.Name "reversed" p2) [a] [] pos2] [] pos) (λY=>(fa Y).bind Hg):=λO Y=>(Hf hc hg hm hg2 hm2 (ha O Y) hs).imp λσ H Q ⟨E,d,q,k⟩=>by
 let⟨as,e1,q⟩:=OH q
 refine⟨E,as,e1,λvs H1 s1 il=>?_⟩
 let⟨c,rfl,q2⟩:=bh q
 let⟨xs,q3,q4⟩:=OH q2
 cases q4
 let⟨v,rfl,h⟩:=is1 il
 let⟨l,ys,rfl,t,l2⟩:=bS q3 h
 refine⟨l,ys,rfl,msk_le.seq t,λb hb=>?_⟩
 have hO:=(E.grow s1).fresh hb
 have le:Same (msk O H1) (msk O (upd H1 b (.tup ys.reverse))):=by rw[l8 hO];exact Same.new (by rw[aA hO];exact hb)
 exact k _ _ (s1.trans (Same.new hb)) ⟨b,ys.reverse,rfl,.of (by rw[aA hO,ai]),IsL.mono le _ _ l2.rev⟩
end
noncomputable def  shO:N2->N2
 |some (_,d)=>!(.sh,d)
 |none=>none
def  frz1 (i:Nat) (Y:Ev):Ev:=match Y[i]? with
 |some x=>Y.set i (shO x)
 |none=>Y
def  frzS:N7->Ev->Ev
 |[],Y=>Y
 |i::is,Y=>frzS is (frz1 i Y)
section
variable {K:Frag} {B:Bs} {O:Oa} {σ:St} {H:Hp} {Y:Ev}
def EnvOk.frz1 (E:EnvOk K B O σ H Y) (i:Nat):∃O',EnvOk K B O' σ H (frz1 i Y)/\Same (msk O H) (msk O' H):=by
 unfold L2.frz1;cases hx:Y[i]? with
 |none=>exact⟨O,E,Same.refl _⟩
 |some x=>
  let⟨F,h1,h2,h3,h4⟩:=E.fp;have le:Same (msk O H) (msk (λb=>O b&&not (decide (b∈F i))) H):=λb o q=>by
   let⟨q1,q2⟩:=aJ q;rw[aA (by simp[q1])];exact q2
  refine⟨λb=>O b&&not (decide _),⟨E.same,E.bdom,λb hb=>?_,λb hb=>E.lis b (by simp at hb;exact hb.1),by rw[List.length_set];exact E.len,λj=>if j=i then[]else F j,λj s q=>?_,λj=>?_,λj k a hj hk=>?_,λj a hj=>?_⟩,le⟩
  .have n:b ∉ F i:=λz=>E.bdom b hb (h4 i b z).2;simp[E.sub b hb,n]
  .rcases get_set_some q with⟨e,q'⟩|⟨e,q'⟩
   .subst e;cases x with
    |none=>cases q'
    |some z=>
     cases q';let⟨v,e1,o1⟩:=h1 j _ hx;refine⟨v,e1,?_⟩;simp only[if_true];exact⟨rfl,o1.is le λa ha=>by simp[ha]⟩
   .let⟨v,e1,o1⟩:=h1 j s q';refine⟨v,e1,?_⟩;simp only[if_neg e];exact o1.frame le λ_ _ _ z=>z
  .dsimp only;split
   .exact List.nodup_nil
   .exact h2 _
  .by_cases e:j=i
   .simp[e]at hj
   .by_cases e2:k=i
    .simp[e2]at hk
    .simp only[if_neg e]at hj;simp only[if_neg e2]at hk;exact h3 j k a hj hk
  .by_cases e:j=i
   .simp[e]at hj
   .simp only[if_neg e]at hj;let⟨o1,o2⟩:=h4 j a hj;have n:a ∉ F i:=λz=>e (h3 j i a hj z);exact⟨by simp[o1,n],o2⟩
def EnvOk.frzS:∀ (is:N7) {O:Oa} {Y:Ev},EnvOk K B O σ H Y->∃O',EnvOk K B O' σ H (frzS is Y)/\Same (msk O H) (msk O' H)
 |[],O,Y,E=>⟨O,E,Same.refl _⟩
 |i::is,O,Y,E=>by
  let⟨O1,E1,s1⟩:=E.frz1 i;let⟨O2,E2,s2⟩:=EnvOk.frzS is E1;exact⟨O2,E2,s1.trans s2⟩
end
def Hi (is:N7) (h:PEv X e g):PEv X e (λY=>g (frzS is Y)):=λB O Y=>(PU.ex λO'=>h B O' _).imp λσ H Q ⟨E,s,Y',q,k⟩=>by
 let⟨O',E',le⟩:=E.frzS is;exact⟨O',E',s,Y',q,λv H' O2 s2 E2=>k v H' O2 (le.trans s2) E2⟩
def  lsX (f:{α:Type}->List α->α->List α):Prop:=∀ {K:Frag} {M H:Hp} {ds:Oc} {xs:List V} {A:List Addr} {d:D} {v:V},DeepL K M H ds xs A->Deep K M H d v []->DeepL K M H (f ds d) (f xs v) A
def qV:lsX fK:=λ{K M H ds xs A d v} h q=>by
 have:=DeepL.snoc q h;grind [lsX,fK]
section
variable {K:Frag} {B:Bs} {O:Oa} {σ:St} {H:Hp} {Y:Ev}
end
section
variable {X:Cx} {e:Expr} {pos:Pos}
def  wC (Y:Ev) (i:Nat):N3:=(ownL Y i).bind λw=>if w.1=.deep then !w.2 else none
end
def Hj:PFr X (.Dict [] [] pos) (λ_=>!(.dct [] [])):=λY=>PE.pu (pe_dnewK.imp λσ H Q ⟨E,d,q,k⟩=>by
 cases q;exactλp hp=>k _ _ [p] (Same.new hp) ⟨p,[],[],rfl,ai,rfl,rfl,rfl,rfl⟩ (by simp) λa ha=>by rw[mem_singleton.mp ha];exact hp) rfl
noncomputable def  oI (ks:List Key) (k:Key):Bool:=ks.any λj=>decide (j=k)
def  fM (ks:List Key) (k:Key):List Key:=if oI ks k=true then ks else ks++[k]
def  fN (ks:List Key) (ds:Oc) (k:Key) (d:D):Oc:=if oI ks k=true then List.zipWith (λj e=>if j=k then d else e) ks ds else ds++[d]
def wE (k:Key) (kvs:List (Key×V)):(kvs.any λkv=>decide (kv.1=k))=oI (kvs.map (·.1)) k:=by
 unfold oI;rw[List.any_map];rfl
def Au (kvs:List (Key×V)) (k:Key) (v:V):(jn kvs k v).map (·.1)=fM (kvs.map (·.1)) k:=by
 unfold jn fM;rw[wE];by_cases h:oI (kvs.map (·.1)) k=true
 .rw[if_pos h,if_pos h,List.map_map];apply List.map_congr_left;intro p _;show(if p.1=k then(p.1,v)else p).1=p.1;split<;>rfl
 grind
def Av {K} (hd:Is K M d v) (l:IsL K M ds (kvs.map (·.2))):IsL K M (fN (kvs.map (·.1)) ds k d) ((jn kvs k v).map (·.2)):=by
 unfold jn fN;rw[wE];by_cases h:oI (kvs.map (·.1)) k=true
 .rw[if_pos h,if_pos h];clear h;induction kvs generalizing ds with
  |nil=>
   have e:ds=[]:=by cases ds with|nil=>rfl|cons a b=>let⟨_,_,z,_⟩:=l;cases z
   subst e;exact rfl
  |cons p r ih=>
   cases ds with
   |nil=>cases(l)
   |cons e ds=>
    let⟨x,t,z,h,l⟩:=l;have z':=z;cases z';refine⟨_,_,rfl,?_,ih l⟩;show Is K M (if p.1=k then d else e) (if p.1=k then(p.1,v)else p).2;by_cases hk:p.1=k
    .rw[if_pos hk,if_pos hk];exact hd
    .rw[if_neg hk,if_neg hk];exact h
 .rw[if_neg h,if_neg h,List.map_append];exact l.app ⟨v,[],rfl,hd,rfl⟩
def Aw (hd:lfD d=true):∀ {ds:Oc},lfL ds=true->lfL (fN ks ds k d)=true:=λ{ds} h=>by
 unfold fN;split
 .rename_i hn;clear hn;induction ks generalizing ds with
  |nil=>rfl
  |cons j ks ih=>
   cases ds with
   |nil=>rfl
   |cons e ds=>
    have h':(lfD e&&lfL ds)=true:=h;rw[and_eq_true]at h';show(lfD (if j=k then d else e)&&lfL (List.zipWith _ ks ds))=true;rw[ih h'.2,Bool.and_true];split
    .exact hd
    .exact h'.1
 .rename_i hn;induction ds with
  |nil=>show(lfD d&&true)=true;rw[hd];rfl
  |cons e ds ih=>
   have h':(lfD e&&lfL ds)=true:=h;rw[and_eq_true]at h';show(lfD e&&lfL (ds++[d]))=true;rw[h'.1,ih h'.2];rfl
def  DT (Y:Ev) (i:Nat):Option (List Key×List D):=(eB Y i).bind λs=>match s with
 |(.deep,.dct ks ds)=>!(ks,ds)
 |_=>none
def yg (h:DT Y i=!w):Y[i]?=!(!(.deep,.dct w.1 w.2)):=by
 let⟨⟨c,d⟩,h1,h2⟩:=OH h;have h2':=h2;split at h2'
 .rename_i ks ds e;cases h2';cases e;exact bY h1
 .cases h2'
section
variable {K:Frag} {B:Bs} {O:Oa} {σ:St} {H:Hp} {Y:Ev}
def EnvOk.dctAt (E:EnvOk K B O σ H Y) {i:Nat} (h:Y[i]?=!(!(.deep,.dct ks ds))):∃a kvs,σ[i]?=!(!(.ref a))/\H a=!(.dK kvs)/\kvs.map (·.1)=ks/\O a=true/\B.H a=none:=by
 let⟨F,h1,h2,h3,h4⟩:=E.fp;let⟨v,e,a,kvs,A',z1,z2,z3,z4,l⟩:=h1 i _ h;exact⟨a,kvs,by rw[e,z1],z2,z3,h4 i a (by rw[z4];exact Oo)⟩
def EnvOk.dput (E:EnvOk K B O σ H Y) {i:Nat} (h:Y[i]?=!(!(.deep,.dct ks ds))) (lf:lfL ds=true) (ld:lfD d=true) (hv:Is K (msk O H) d v) (k:Key):
  ∃a kvs,σ[i]?=!(!(.ref a))/\H a=!(.dK kvs)/\kvs.map (·.1)=ks/\EnvOk K B O σ (upd H a (.dK (jn kvs k v))) (Y.set i (!(.deep,.dct (fM ks k) (fN ks ds k d))))/\Same (msk O H) (msk O (upd H a (.dK (jn kvs k v)))):=by
 let⟨F,h1,h2,h3,h4⟩:=E.fp
 let⟨v0,e0,a,kvs,A',z1,z2,z3,z4,l⟩:=h1 i _ h
 subst z1
 have hA:=DeepL.lf ds _ A' lf l
 subst hA
 have haF:a∈F i:=by rw[z4];exact Oo
 let⟨oa,ba⟩:=h4 i a haF
 have me:msk O (upd H a (.dK (jn kvs k v)))=msk O H:=eH oa
 have le:Same (msk O H) (msk O (upd H a (.dK (jn kvs k v)))):=by rw[me];exact Same.refl _
 refine⟨a,kvs,e0,z2,z3,⟨λb o q=>?_,E.bdom,E.sub,λb hb=>?_,by rw[List.length_set];exact E.len,F,λj s q=>?_,h2,h3,h4⟩,le⟩
 .rw[ae (ak q ba)];exact E.same b o q
 .by_cases e:b=a
  .subst e;exact .inr (.inr ⟨_,ai⟩)
  .rw[ae e];exact E.lis b hb
 .rcases get_set_some q with⟨e,q'⟩|⟨e,q'⟩
  .cases q';subst e;refine⟨.ref a,e0,a,_,[],rfl,ai,by rw[Au,z3],z4,?_⟩;rw[me];subst z3;have il:=DeepL.is (NL.of (Same.refl _)) ds _ [] (λ_ h=>(nomatch h)) l;exact IsL.deep _ _ (Aw ld lf) (Av hv il)
  .let⟨w,e1,o1⟩:=h1 j s q';refine⟨w,e1,o1.frame le λb hb o z=>?_⟩;have:b≠a:=λz2=>e (h3 j i a (z2▸hb) haF);rw[ae this];exact z
end
section
variable {X:Cx} {e:Expr} {pos:Pos}
def  Kh:F0:=λo i v H Q=>∃p kvs k,o=.ref p/\i=kV k/\H p=!(.dK kvs)/\kvs.length<sizeLine/\Q (upd H p (.dK (jn kvs k v)))
def Ax:F3 X Kh:=by
 intro pins s σ H o i v ov iv u Q I ro ri rv h;let⟨p,kvs,k,rfl,rfl,hp,hl,q⟩:=h;cases ro;let⟨z,hd,vs,rel,dd⟩:=Fi I.hok hp;have hz:vs.length<=sizeLine:=by rw[<-rel.length];exact z
 have hl':(jn kvs k v).length<=sizeLine:=by have:=sF kvs k v;omega
 refine wpAny_setItem_pairs (Fh ri) dd λh' dd' hs=>⟨_,?_,q⟩;have he:∃q,h'.get? p=!q:=let⟨q,_,_,hq,_⟩:=dd';⟨q,hq⟩;exact C4 I (by rw[hp];exact True.intro) hs he (Gj hl' hd (rel.put k rv) dd')
def  Ay (i:Nat) (fk:wp) (R:wp):Cl:=λY=>(DT Y i).bind λw=>(lfO (R (vw Y))).bind λd=>(fk (vw Y)).bind λy=>(Gy y).bind λk=>if lfL w.2=true/\w.1.length+1<big then !(.nx (Y.set i (!(.deep,.dct (fM w.1 k) (fN w.1 w.2 k d)))))else none
def Hk (i:Nat) (h:PP X e R) (hk:PP X ik fk) (hN:X.N[i]?=!x) (hv:Vis X.env.scope x) (hd:(!7)=false) (hcd:(!12)=false) (ha:∀v,assign (.Subscript (!18) ik spos) X.env v=(do
   let ov<-holding [v] (eval (!18) X.env)
   let iv<-holding [v,ov] (eval ik X.env)
   standAt spos
   holding [v,ov,iv] (setItem ov iv v)
   release [v,ov,iv] [])) (hs:swapsWithSole [.Subscript (!18) ik spos] e pos.line X.env=pure false) (hw:swappedStores [.Subscript (!18) ik spos] e X.env=pure none) (h1:(assignEach [.Subscript (!18) ik spos] X.env).map (·.2)=[assign (.Subscript (!18) ik spos) X.env]):PR X (.Assign [.Subscript (!18) ik spos] e pos) (Ay i fk R):=λB O Y=>
 (qw (h noO (vw Y)) (y7 (bT hN hv hd hcd) (hk noO (vw Y)) Ax ha) hs hw h1).imp λEn σ H ⟨E,o,q,k⟩=>by
 let⟨⟨ks,ds⟩,q1,q⟩:=OH q
 let⟨d,q2,q⟩:=OH q
 let⟨y,q3,q⟩:=OH q
 let⟨j,q4,q⟩:=OH q
 let⟨⟨hl,hz⟩,q⟩:=ar q
 subst q
 let⟨d',p5,p6⟩:=OH q2
 let⟨ld,p7⟩:=ar p6
 subst p7
 have h0:=yg q1
 refine⟨E.view,d',p5,λv H1 s1 iv=>?_⟩
 have E1:=E.grow s1
 let⟨a,kvs,e1,e2,e3,_⟩:=E1.dctAt h0
 refine⟨.ref a,e1,E1.view,y,q3,λyv H2 s2 iy=>?_⟩
 have E2:=E1.grow s2
 have iv':Is X.K (msk O H2) d' v:=Is.nl (by have:=E2.nl;rw[qI]at*;exact(NL.of s2).trans this) d' v ld iv
 let⟨a',kvs',f1,f2,f3,f4,f5⟩:=E2.dput h0 hl ld iv' j
 rw[e1]at f1
 cases f1
 exact⟨a,kvs',j,rfl,wg q4 iy,f2,by
  have:kvs'.length=ks.length:=by have:=congrArg List.length f3;rwa [length_map]at this
  have hz:ks.length+1<big:=hz;rw[f6];omega,k σ _ O (s1.msk.trans (s2.msk.trans f5)) f4⟩
end
section
variable {X:Cx} {a:Expr} {p pos:Pos}
def u6:bootBuiltins "sorted"=!(.builtin "sorted"):=by decide+kernel
noncomputable def  eE (ns:N9):N9:=ns.mergeSort (λa b=>decide (a<=b))
def Az (h1:ms.Perm ns) (h2:ms.Pairwise (·<=·)):ms=eE ns:=by
 refine List.Perm.eq_of_pairwise (λa b _ _ h h'=>Int.le_antisymm h h') h2 ?_ (h1.trans (List.mergeSort_perm _ _).symm);have:=List.pairwise_mergeSort (le:=λa b:Int=>decide (a<=b)) (λa b c h1 h2=>decide_eq_true (Int.le_trans (Oq h1) (Oq h2))) (λa b=>by simp;omega) ns;exact this.imp λh=>Oq h
def wF:∀ {ns:N9} {us:N5},Vals (ns.map V.int) us->IntsAre us ns
 |[],_,.nil=>.nil
 |n::ns,_,.cons ⟨t,e⟩ r=>by subst e;exact .cons n t (wF r)
def pS:∀ {us:N5} {ns:N9},IntsAre us ns->Vals (ns.map V.int) us
 |_,_,.nil=>.nil
 |_,_,.cons n t r=>.cons ⟨t,rfl⟩ (pS r)
def  Ki (K:Frag):List V->Hp->VK->Prop:=λvs H Q=>∃l ns,vs=[.ref l]/\SqL K H l (ns.map V.int)/\ns.length<64/\∀q,H q=none->Q (.ref q) (upd H q (.lst ((eE ns).map V.int)))
def yh:fG X (.builtin "sorted") (Ki X.K):=by
 intro pins s σ H xs us Q I r h;let⟨l,ns,rfl,hx,h64,q⟩:=h;let⟨u,rfl,ru⟩:=gq r;cases ru;let⟨its,rv,pl,hz⟩:=I.list hx;have hl:=rv.length;rw[length_map]at hl;refine PyProof.Rows.sorted_ints pl.isList (wF rv) (!1) λout ms h1 h2 h3=>?_;let⟨e,he⟩:=sortedAll_at s.heap its out;have z:=Az h2 h3;subst z;have fr:=I.hok.fresh (Nat.le_succ _);refine⟨.ref _,_,I.laid (λb o q=>sortedAll_old q) (Nat.le_succ _) (o:=.lst _) ⟨?_,out.toList,e,pS h1,by simpa using he⟩,rfl,q _ fr⟩;rw[length_map,h2.length_eq];have:(64:Nat)<=sizeLine:=by decide
 omega
def  jw:Oc->N3:=un1 λd=>(jp d).bind λds=>(bb ds).bind λns=>if ns.length<64 then !((eE ns).map D.int)else none
def mZ {K}:∀ (ns:N9),IsL K H (ns.map D.int) (ns.map V.int)
 |[]=>rfl
 |n::ns=>⟨_,_,rfl,rfl,mZ ns⟩
def DU (hg:Gl X "sorted") (hm:X.mg "sorted"=none) (ha:PX X [a] fa) (hs:starEach [a] X.env=[(false,eval a X.env)]):
  PF X (.Call (.Name "sorted" p) [a] [] pos) (λY=>(fa Y).bind jw):=λO Y=>(mC yh hg hm u6 (ha O Y) (!5) (!5) (by rw[hs];rfl) rfl).imp λσ H Q ⟨E,ds,q,k⟩=>by
 let⟨as,e1,q⟩:=OH q
 refine⟨E,as,e1,λvs H1 s1 il=>?_⟩
 let⟨c,rfl,q2⟩:=bh q
 let⟨xs,q3,q4⟩:=OH q2
 let⟨ns,q5,q6⟩:=OH q4
 let⟨h64,q7⟩:=ar q6
 subst q7
 let⟨v,rfl,h⟩:=is1 il
 let⟨l,ys,rfl,t,l2⟩:=bS q3 h
 rw[bI q5 l2]at t
 exact⟨l,ns,rfl,msk_le.seq t,h64,λb hb=>k b _ H1 s1 hb (mZ _)⟩
end
end L2
namespace L2
open PySem PySem.W PyProof.Rows
noncomputable def  kRun {α:Type} (c:Nat->Nat->Bool):KasT α->α
 |.ret a=>a
 |.ask i j k=>kRun c (k (c i j))
def dN {f:α->KasT β}:∀t:KasT α,kRun c (t.bind f)=kRun c (f (kRun c t))
 |.ret _=>rfl
 |.ask i j k=>dN (k (c i j))
section
variable {ky:Nat->Int}
noncomputable def  kC (ky:Nat->Int) (i j:Nat):Bool:=decide (ky i<ky j)
noncomputable def  kG (ky:Nat->Int) (p:Array Nat) (i:Nat):Int:=ky (p.getD i 0)
def m9 (h:p[i]?=q[j]?):kG ky p i=kG ky q j:=by
 unfold kG;rw[Array.getD_eq_getD_getElem?,Array.getD_eq_getD_getElem?,h]
def  kUp (ky:Nat->Int) (p:Array Nat) (k:Nat):Prop:=∀i j,i<=j->j<k->kG ky p i<=kG ky p j
def  kDn (ky:Nat->Int) (p:Array Nat) (k:Nat):Prop:=∀i j,i<=j->j<k->kG ky p j<=kG ky p i
def  kEq (ky:Nat->Int) (p:Array Nat) (a b:Nat):Prop:=∀i,a<=i->i<b->kG ky p i=kG ky p (b-1)
def rev_at (hj:j<=p.size) (k:Nat):(kas_rev p i j)[k]?=if i<=k/\k<j then p[i+j-1-k]? else p[k]?:=by
 unfold kas_rev;rw[getElem?_mirror hj _ (!1)];grind
def ng (hj:j<=p.size) (h:kEq ky p i j) (k:Nat):kG ky (kas_rev p i j) k=kG ky p k:=by
 have e:=rev_at (i:=i) hj k;by_cases c:i<=k/\k<j
 .rw[if_pos c]at e;rw[m9 e,h _ (!1) (!1),h k c.1 c.2]
 .rw[if_neg c]at e;exact m9 e
def b9 (p:Array Nat) (i j:Nat):(kas_rev p i j).Perm p:=mirror_perm _ _ _ _
def dO {p q:Array Nat} (h:p.Perm q):p.size=q.size:=h.size_eq
def u7:∀ (f n:Nat),1<=n->kUp ky p n->
  n<=kRun (kC ky) (kas_asc p f n)/\kRun (kC ky) (kas_asc p f n)<=n+f/\kUp ky p (kRun (kC ky) (kas_asc p f n))/\
   (kRun (kC ky) (kas_asc p f n)=n+f\/kG ky p (kRun (kC ky) (kas_asc p f n))<kG ky p (kRun (kC ky) (kas_asc p f n)-1))
 |0,n,_,h=>⟨OF _,OF _,h,.inl rfl⟩
 |f+1,n,h1,h=>by
  have e:kRun (kC ky) (kas_asc p (f+1) n)=if kG ky p n<kG ky p (n-1)then n else kRun (kC ky) (kas_asc p f (n+1)):=by
   show kRun (kC ky) (if decide (kG ky p n<kG ky p (n-1))=true then KasT.ret n else kas_asc p f (n+1))=_;by_cases c:kG ky p n<kG ky p (n-1)
   .rw[if_pos c,if_pos (decide_eq_true c)];rfl
   .rw[if_neg c,if_neg (by rw[decide_eq_true_eq];exact c)]
  rw[e];by_cases c:kG ky p n<kG ky p (n-1)
  .rw[if_pos c];exact⟨OF _,by omega,h,.inr c⟩
  .rw[if_neg c];let⟨a1,a2,a3,a4⟩:=u7 f (n+1) (!1) (λi j hij hj=>by
    rcases Nat.lt_or_ge j n with q|q
    .exact h i j hij q
    .have:j=n:=by omega
     subst this;rcases Nat.lt_or_ge i j with r|r
     .exact Int.le_trans (h i (j-1) (!1) (!1)) (!1)
     .have:i=j:=by omega
      subst this;exact Int.le_refl _)
   exact⟨by omega,by omega,a3,a4.imp (λq=>by omega) id⟩
structure kDs (ky:Nat->Int) (p:Array Nat) (n q:Nat):Prop where
 n1:1<=n
 hq:q+1<=n
 dn:kDn ky p n
 eq:kEq ky p (n-(q+1)) n
def qW (h1:1<=n) (h:kDn ky p n) (c:kG ky p n<=kG ky p (n-1)) (e:∀k,kG ky p' k=kG ky p k):kDn ky p' (n+1):=λi j hij hj=>by
 rw[e,e];rcases Nat.lt_or_ge j n with q|q
 .exact h i j hij q
 .have:j=n:=by omega
  subst this;rcases Nat.lt_or_ge i j with r|r
  .exact Int.le_trans c (h i (j-1) (!1) (!1))
  .have:i=j:=by omega
   subst this;exact Int.le_refl _
def ma:∀ (f:Nat) (p:Array Nat) (n q:Nat),kDs ky p n q->n+f<=p.size->
  ∃p' m q',kRun (kC ky) (kas_desc f p n q)=(p',m,q')/\p'.Perm p/\n<=m/\m<=n+f/\kDs ky p' m q'
 |0,p,n,q,h,_=>⟨p,n,q,rfl,.refl _,OF _,OF _,h⟩
 |f+1,p,n,q,h,hz=>by
  have e:kRun (kC ky) (kas_desc (f+1) p n q)=if kG ky p n<kG ky p (n-1)then(if q>0 then kRun (kC ky) (kas_desc f (kas_rev p (n-(q+1)) n) (n+1) 0)else kRun (kC ky) (kas_desc f p (n+1) 0))
    else if kG ky p (n-1)<kG ky p n then(p,n,q)else kRun (kC ky) (kas_desc f p (n+1) (q+1)):=by
   show kRun (kC ky) (if decide (kG ky p n<kG ky p (n-1))=true then(if q>0 then kas_desc f (kas_rev p (n-(q+1)) n) (n+1) 0 else kas_desc f p (n+1) 0)
    else KasT.ask (p.getD (n-1) 0) (p.getD n 0) λd=>if d=true then KasT.ret (p,n,q)else kas_desc f p (n+1) (q+1))=_
   by_cases c:kG ky p n<kG ky p (n-1)
   .rw[if_pos c,if_pos (decide_eq_true c)];by_cases c2:q>0
    .rw[if_pos c2,if_pos c2]
    .rw[if_neg c2,if_neg c2]
   .rw[if_neg c,if_neg (by rw[decide_eq_true_eq];exact c)];show kRun (kC ky) (if decide (kG ky p (n-1)<kG ky p n)=true then KasT.ret (p,n,q)else kas_desc f p (n+1) (q+1))=_;by_cases c2:kG ky p (n-1)<kG ky p n
    .rw[if_pos c2,if_pos (decide_eq_true c2)];rfl
    .rw[if_neg c2,if_neg (by rw[decide_eq_true_eq];exact c2)]
  have one:∀p':Array Nat,kEq ky p' (n+1-(0+1)) (n+1):=λp' i h1 h2=>by
   have:i=n+1-1:=by omega
   rw[this]
  rw[e];by_cases c:kG ky p n<kG ky p (n-1)
  .rw[if_pos c];by_cases c2:q>0
   .rw[if_pos c2];have hr:=b9 p (n-(q+1)) n;have hs:=dO hr;let⟨p',m,q',a1,a2,a3,a4,a5⟩:=ma f (kas_rev p (n-(q+1)) n) (n+1) 0 ⟨by omega,by omega,qW h.n1 h.dn (Int.le_of_lt c) (ng (!1) h.eq),one _⟩ (!1);exact⟨p',m,q',a1,a2.trans hr,by omega,by omega,a5⟩
   .rw[if_neg c2];let⟨p',m,q',a1,a2,a3,a4,a5⟩:=ma f p (n+1) 0 ⟨by omega,by omega,qW h.n1 h.dn (Int.le_of_lt c) (λ_=>rfl),one _⟩ (!1);exact⟨p',m,q',a1,a2,by omega,by omega,a5⟩
  .rw[if_neg c];by_cases c2:kG ky p (n-1)<kG ky p n
   .rw[if_pos c2];exact⟨p,n,q,rfl,.refl _,OF _,by omega,h⟩
   .rw[if_neg c2];have eq:kG ky p n=kG ky p (n-1):=by omega
    let⟨p',m,q',a1,a2,a3,a4,a5⟩:=ma f p (n+1) (q+1) ⟨by omega,by have:=h.hq;omega,qW h.n1 h.dn (Int.le_of_eq eq) (λ_=>rfl),λi h1 h2=>by
     show kG ky p i=kG ky p n;rcases Nat.lt_or_ge i n with r|r
     .rw[h.eq i (!1) r,eq]
     .have:i=n:=by omega
      rw[this]⟩ (!1)
    exact⟨p',m,q',a1,a2,by omega,by omega,a5⟩
def wG (h1:1<=n) (hn:n<=nrem) (hz:nrem<=p.size) (h:kDn ky p n):
  ∃m p',kRun (kC ky) (kas_tail3 n nrem p)=(m,p')/\p'.Perm p/\1<=m/\m<=nrem/\kUp ky p' m:=by
 have up:kUp ky (kas_rev p 0 n) n:=λi j hij hj=>by
  have e1:=rev_at (p:=p) (i:=0) (j:=n) (!1) i;have e2:=rev_at (p:=p) (i:=0) (j:=n) (!1) j;rw[if_pos (!1)]at e1 e2;rw[m9 e1,m9 e2];exact h _ _ (!1) (!1)
 let⟨a1,a2,a3,_⟩:=u7 (nrem-n) n h1 up
 refine⟨_,kas_rev p 0 n,?_,b9 _ _ _,by omega,by omega,a3⟩
 unfold kas_tail3
 rw[dN]
 rfl
def wH (hn:n+1<=nrem) (hz:nrem<=p.size) (h:kDn ky p (n+1)):
  ∃m p',kRun (kC ky) (kas_descPart n nrem p)=(m,p')/\p'.Perm p/\1<=m/\m<=nrem/\kUp ky p' m:=by
 let⟨p1,m,q,e,a2,a3,a4,a5⟩:=ma (nrem-(n+1)) p (n+1) 0 ⟨by omega,by omega,h,λi h1 h2=>by
  have:i=n+1-1:=by omega
  rw[this]⟩ (!1)
 have hs:=dO a2
 unfold kas_descPart
 rw[dN,e]
 dsimp only
 by_cases c:q>0
 .rw[if_pos c];have hr:=b9 p1 (m-(q+1)) m;have hs2:=dO hr;have d:kDn ky (kas_rev p1 (m-(q+1)) m) m:=λi j hij hj=>by
   rw[ng (!1) a5.eq,ng (!1) a5.eq];exact a5.dn i j hij hj
  let⟨m',p',b1,b2,b3⟩:=wG (nrem:=nrem) a5.n1 (!1) (!1) d;exact⟨m',p',b1,b2.trans (hr.trans a2),b3⟩
 .rw[if_neg c];let⟨m',p',b1,b2,b3⟩:=wG (nrem:=nrem) a5.n1 (!1) (!1) a5.dn;exact⟨m',p',b1,b2.trans a2,b3⟩
def AA (h1:1<=nrem) (hz:nrem<=p.size):
  ∃m p',kRun (kC ky) (kas_count nrem p)=(m,p')/\p'.Perm p/\1<=m/\m<=nrem/\kUp ky p' m:=by
 let⟨a1,a2,a3,a4⟩:=u7 (nrem-1) 1 (OF _) (λi j hij hj=>by
  have:i=j:=by omega
  subst this;exact Int.le_refl _)
 unfold kas_count
 rw[dN]
 generalize kRun (kC ky) (kas_asc p (nrem-1) 1)=n at a1 a2 a3 a4
 by_cases c:(n==nrem)=true
 .rw[if_pos c];exact⟨n,p,rfl,.refl _,a1,by omega,a3⟩
 .rw[if_neg c];have c':n≠nrem:=λq=>c (beq_iff_eq.mpr q);have a4:kG ky p n<kG ky p (n-1):=by
   rcases a4 with q|q
   .omega
   .exact q
  by_cases c2:n>1
  .rw[if_pos c2];have e:kRun (kC ky) (KasT.ask (p.getD 0 0) (p.getD (n-1) 0) λc=>if c=true then KasT.ret (n,p)else kas_descPart n nrem (kas_rev p 0 n))=if kG ky p 0<kG ky p (n-1)then(n,p)else kRun (kC ky) (kas_descPart n nrem (kas_rev p 0 n)):=by
    show kRun (kC ky) (if decide (kG ky p 0<kG ky p (n-1))=true then KasT.ret (n,p)else kas_descPart n nrem (kas_rev p 0 n))=_;by_cases c3:kG ky p 0<kG ky p (n-1)
    .rw[if_pos c3,if_pos (decide_eq_true c3)];rfl
    .rw[if_neg c3,if_neg (by rw[decide_eq_true_eq];exact c3)]
   rw[e];by_cases c3:kG ky p 0<kG ky p (n-1)
   .rw[if_pos c3];exact⟨n,p,rfl,.refl _,a1,by omega,a3⟩
   .rw[if_neg c3];have eq:kEq ky p 0 n:=λi h1 h2=>by
     have x1:=a3 i (n-1) (!1) (!1);have x2:=a3 0 i (!1) h2;omega
    have hr:=b9 p 0 n;have hs:=dO hr;let⟨m',p',b1,b2,b3⟩:=wH (p:=kas_rev p 0 n) (n:=n) (nrem:=nrem) (!1) (!1) (λi j hij hj=>by
     rw[ng (!1) eq,ng (!1) eq];rcases Nat.lt_or_ge j n with r|r
     .rw[eq i (!1) (!1),eq j (!1) r];exact Int.le_refl _
     .have:j=n:=by omega
      subst this;rcases Nat.lt_or_ge i j with r'|r'
      .rw[eq i (!1) r'];omega
      .have:i=j:=by omega
       subst this;exact Int.le_refl _)
    exact⟨m',p',b1,b2.trans hr,b3⟩
  .rw[if_neg c2];refine wH (!1) hz λi j hij hj=>?_;have:n=1:=by omega
   subst this;rcases Nat.lt_or_ge i j with r|r
   .have e1:i=0:=by omega
    have e2:j=1:=by omega
    subst e1 e2;exact Int.le_of_lt a4
   .have:i=j:=by omega
    subst this;exact Int.le_refl _
def nh (up:kUp ky p k):∀ (f l r:Nat),l<=r->r<=k->r-l<=f->(∀i,i<l->kG ky p i<=kG ky p k)->(∀i,r<=i->i<k->kG ky p k<kG ky p i)->
  kRun (kC ky) (kas_place p k f l r)<=k/\(∀i,i<kRun (kC ky) (kas_place p k f l r)->kG ky p i<=kG ky p k)/\(∀i,kRun (kC ky) (kas_place p k f l r)<=i->i<k->kG ky p k<kG ky p i)
 |0,l,r,h1,h2,h3,a,b=>⟨by show l<=k;omega,a,λi hi hk=>b i (by have:l<=i:=hi;omega) hk⟩
 |f+1,l,r,h1,h2,h3,a,b=>by
  unfold kas_place;by_cases c:l≥r
  .rw[if_pos c];exact⟨by show l<=k;omega,a,λi hi hk=>b i (by have:l<=i:=hi;omega) hk⟩
  .rw[if_neg c];have e:kRun (kC ky) (KasT.ask (p.getD k 0) (p.getD ((l+r)/2) 0) λc=>if c=true then kas_place p k f l ((l+r)/2)else kas_place p k f ((l+r)/2+1) r)=if kG ky p k<kG ky p ((l+r)/2)then kRun (kC ky) (kas_place p k f l ((l+r)/2))else kRun (kC ky) (kas_place p k f ((l+r)/2+1) r):=by
    show kRun (kC ky) (if decide (kG ky p k<kG ky p ((l+r)/2))=true then kas_place p k f l ((l+r)/2)else kas_place p k f ((l+r)/2+1) r)=_;by_cases c3:kG ky p k<kG ky p ((l+r)/2)
    .rw[if_pos c3,if_pos (decide_eq_true c3)]
    .rw[if_neg c3,if_neg (by rw[decide_eq_true_eq];exact c3)]
   rw[e];by_cases c3:kG ky p k<kG ky p ((l+r)/2)
   .rw[if_pos c3];exact nh up f l ((l+r)/2) (!1) (!1) (!1) a λi hi hk=>by
     have:=up ((l+r)/2) i hi hk;omega
   .rw[if_neg c3];exact nh up f ((l+r)/2+1) r (!1) h2 (!1) (λi hi=>by
     have:=up i ((l+r)/2) (!1) (!1);omega) b
def AB:∀ (f:Nat) (p:Array Nat) (k:Nat),kUp ky p k->k+f<=p.size->(kRun (kC ky) (kas_bin f p k)).Perm p/\kUp ky (kRun (kC ky) (kas_bin f p k)) (k+f)
 |0,p,k,h,_=>⟨.refl _,h⟩
 |f+1,p,k,h,hz=>by
  let⟨a1,a2,a3⟩:=nh h k 0 k (Nat.zero_le _) (OF _) (!1) (λi hi=>by omega) (λi h1 h2=>by omega);have e:kRun (kC ky) (kas_bin (f+1) p k)=kRun (kC ky) (kas_bin f (bubble p k (k-kRun (kC ky) (kas_place p k k 0 k))) (k+1)):=dN _;rw[e];generalize kRun (kC ky) (kas_place p k k 0 k)=l at a1 a2 a3;have hp:(bubble p k (k-l)).Perm p:=bubble_perm _ _ _;have hs:=dO hp;have at':∀i,kG ky (bubble p k (k-l)) i=if i=l then kG ky p k else if l<i/\i<=k then kG ky p (i-1)else kG ky p i:=λi=>by
   have z:=getElem?_bubble (xs:=p) (src:=k) (!1) (k-l) (!1) i;rw[show k-(k-l)=l by omega]at z;by_cases c1:i=l
   .rw[if_pos c1]at z⊢;exact m9 z
   .rw[if_neg c1]at z⊢;by_cases c2:l<i/\i<=k
    .rw[if_pos c2]at z⊢;exact m9 z
    .rw[if_neg c2]at z⊢;exact m9 z
  let⟨b1,b2⟩:=AB f (bubble p k (k-l)) (k+1) (λi j hij hj=>by
   rw[at',at'];by_cases ci:i=l
   .rw[if_pos ci];by_cases cj:j=l
    .rw[if_pos cj];exact Int.le_refl _
    .rw[if_neg cj,if_pos (!1)];exact Int.le_of_lt (a3 (j-1) (!1) (!1))
   .rw[if_neg ci];by_cases ci2:l<i/\i<=k
    .rw[if_pos ci2,if_neg (!1),if_pos (!1)];exact h _ _ (!1) (!1)
    .rw[if_neg ci2];by_cases cj:j=l
     .rw[if_pos cj];exact a2 i (!1)
     .rw[if_neg cj];by_cases cj2:l<j/\j<=k
      .rw[if_pos cj2];exact h _ _ (!1) (!1)
      .rw[if_neg cj2];exact h _ _ hij (!1)) (!1)
  exact⟨b1.trans hp,by rw[show k+(f+1)=k+1+f by omega];exact b2⟩
def DV (h1:1<=n):(kRun (kC ky) (kas_sort n)).Perm (List.toArray (!16))/\kUp ky (kRun (kC ky) (kas_sort n)) n:=by
 let⟨m,p,e,a2,a3,a4,a5⟩:=AA (p:=List.toArray (!16)) h1 (by simp);have hs:=dO a2;have hz:(List.toArray (!16)).size=n:=by simp
 unfold kas_sort;rw[dN,e];by_cases c:m<n
 .rw[if_pos c];have hm:max m 1=m:=by omega
  rw[hm];let⟨b1,b2⟩:=AB (n-m) p m a5 (!1);rw[show m+(n-m)=n by omega]at b2;exact⟨b1.trans a2,b2⟩
 .rw[if_neg c];have:m=n:=by omega
  subst this;exact⟨a2,a5⟩
end
def  kIn {α:Type} (n:Nat) (Q:α->Prop):KasT α->Prop
 |.ret a=>Q a
 |.ask i j k=>i<n/\j<n/\∀b,kIn n Q (k b)
def fO {Q Q'} (h:∀a,Q a->Q' a):∀t:KasT α,kIn n Q t->kIn n Q' t
 |.ret a,z=>h a z
 |.ask _ _ k,z=>⟨z.1,z.2.1,λb=>fO h (k b) (z.2.2 b)⟩
def fP {f:α->KasT β}:∀t:KasT α,kIn n (λa=>kIn n Q (f a)) t->kIn n Q (t.bind f)
 |.ret _,z=>z
 |.ask _ _ k,z=>⟨z.1,z.2.1,λb=>fP (k b) (z.2.2 b)⟩
def ca [Decidable c] {t u:KasT α} (h:kIn n Q t) (h':kIn n Q u):kIn n Q (if c then t else u):=by grind
def  kB (n:Nat) (p:Array Nat):Prop:=∀k,p.getD k 0<n
def ij (h0:0<n) (h:q.Perm p) (b:kB n p):kB n q:=λk=>by
 rw[Array.getD_eq_getD_getElem?];cases e:q[k]? with
 |none=>exact h0
 |some x=>
  let⟨j,hj,e2⟩:=Array.getElem_of_mem (h.mem_iff.mp (Array.mem_of_getElem? e));have z:=b j;rw[Array.getD_eq_getD_getElem?,Array.getElem?_eq_getElem hj,e2]at z;exact z
section
variable {n:Nat}
def u8 (b:kB n p):∀ (f m:Nat),kIn n (λ_=>True) (kas_asc p f m)
 |0,_=>trivial
 |f+1,m=>⟨b _,b _,λc=>ca trivial (u8 b f (m+1))⟩
def mf (h0:0<n):∀ (f:Nat) (p:Array Nat) (m q:Nat),kB n p->kIn n (λr=>kB n r.1) (kas_desc f p m q)
 |0,p,_,_,b=>b
 |f+1,p,m,q,b=>⟨b _,b _,λc=>ca (ca (mf h0 f _ _ _ (ij h0 (b9 _ _ _) b)) (mf h0 f _ _ _ b)) ⟨b _,b _,λd=>ca b (mf h0 f _ _ _ b)⟩⟩
def wI (h0:0<n) (b:kB n p) (m r:Nat):kIn n (λz=>kB n z.2) (kas_tail3 m r p):=
 fP _ (fO (λ_ _=>ij h0 (b9 _ _ _) b) _ (u8 (ij h0 (b9 _ _ _) b) _ _))
def wJ (h0:0<n) (b:kB n p) (m r:Nat):kIn n (λz=>kB n z.2) (kas_descPart m r p):=
 fP _ (fO (λz bz=>ca (wI h0 (ij h0 (b9 _ _ _) bz) _ _) (wI h0 bz _ _)) _ (mf h0 _ _ _ _ b))
def AC (h0:0<n) (b:kB n p) (r:Nat):kIn n (λz=>kB n z.2) (kas_count r p):=by
 refine fP _ (fO (λm _=>?_) _ (u8 b _ _));refine ca ?_ (ca ⟨b _,b _,λc=>ca ?_ (wJ h0 (ij h0 (b9 _ _ _) b) _ _)⟩ (wJ h0 b _ _))
 .exact b
 .exact b
def ni (b:kB n p) (k:Nat):∀ (f l r:Nat),kIn n (λ_=>True) (kas_place p k f l r)
 |0,_,_=>trivial
 |f+1,l,r=>by
  unfold kas_place;exact ca trivial ⟨b _,b _,λc=>ca (ni b k f _ _) (ni b k f _ _)⟩
def AD (h0:0<n):∀ (f:Nat) (p:Array Nat) (k:Nat),kB n p->kIn n (λ_=>True) (kas_bin f p k)
 |0,_,_,_=>trivial
 |f+1,p,k,b=>fP _ (fO (λl _=>AD h0 f _ _ (ij h0 (bubble_perm _ _ _) b)) _ (ni b k _ _ _))
def qX (h0:0<n):kIn n (λ_=>True) (kas_sort n):=by
 have b:kB n (List.toArray (!16)):=λk=>by
  by_cases h:k<n
  .simp[h]
  .simp[h,h0]
 refine fP _ (fO (λz bz=>ca (AD h0 _ _ _ bz) ?_) _ (AC h0 b n));exact trivial
end
def qY {ask} (ha:∀i j C,i<n->j<n->C (c i j) s->ask i j C s):
  ∀t:KasT α,kIn n (λ_=>True) t->Q (kRun c t) s->t.kasWp ask Q s
 |.ret _,_,h=>h
 |.ask i j k,z,h=>ha i j _ z.1 z.2.1 (qY ha (k (c i j)) (z.2.2 _) h)
end L2
namespace L2
open PySem PySem.W PyProof.Rows
section
variable {prog:Program} {w:World} {A:Around} {E:N4} {s:Shared}
def  gt (c:Nat->Nat->Bool) (vs:N5):N5:=if vs.length<2 then vs else(kRun c (kas_sort vs.length)).toList.map λi=>vs.getD i .none
structure SortBy (prog:Program) (w:World) (A:Around) (s:Shared) (a:Addr) (vs:N5) (κ:SortKind) (c:Nat->Nat->Bool):Prop where
 kd:∀h',(∀b o,b≠a->s.heap.get? b=!o->h'.get? b=!o)->2<=vs.length->∀ (Q:SortKind->Shared->Prop),Q κ {s with heap:=h'}->wpAny (!6) A (keyKind' vs.toArray) Q (λ_ _=>False) {s with heap:=h'}
 cp:∀h',(∀b o,b≠a->s.heap.get? b=!o->h'.get? b=!o)->∀i j,i<vs.length->j<vs.length->∀ (Q:Bool->Shared->Prop),Q (c i j) {s with heap:=h'}->wpAny (!6) A (keyLt' κ (vs.getD i .none) (vs.getD j .none)) Q (λ_ _=>False) {s with heap:=h'}
def AE (ho:s.heap.get? a=!(seqObj "list" vs.toArray n)) (h64:vs.length<64) (B:SortBy prog w A s a vs κ c) (h:P (.done (.ret .none)) {s with heap:=sortedHeap s.heap a vs (gt c vs).toArray}):wpAny (!6) A (Builtin.«list.sort» ⟨[.ref a],[]⟩) P E s:=by
 obtain⟨m,hm⟩:∃m,(s.heap.update a (Obj.mapSeq λ_=>#[])).get? a=!(seqObj "list" #[] m):=⟨_,get?_update_seq ho λ_=>#[]⟩;have hL:(((s.heap.update a (Obj.mapSeq λ_=>#[])).push (seqObj "tuple" vs.toArray 0)).push (seqObj "list" #[] 0)).get? a=!_:=
  Oh _ (Oh _ hm)
 have sz:vs.toArray.size=vs.length:=rfl;have z64:vs.length<=sizeLine:=by rw[sizeLine_eq];omega
 rw[list_sort_plain];refine Og (listItems_at ho rfl (Og (listUpdate_at ho rfl ?_ (by rw[sz];exact z64) (Nat.zero_le _))));refine Og (seqEpoch_at hm rfl (Og (wpAny_newTuple ?_ z64)));refine Og (wpAny_newList (wpAny_holding ?_) (Nat.zero_le _));dsimp only;rw[sz];by_cases q:vs.length<2
 .rw[if_pos q,if_pos q];refine Og (Oi ?_);refine Og (Oi ?_);have e:(arrOf (SortSt.mk' general' (vs.toArray.zip vs.toArray) #[] 7 none)).map (·.2)=(gt c vs).toArray:=by
   unfold gt;rw[if_pos q];show(vs.toArray.zip vs.toArray).map (·.2)=vs.toArray;apply Array.toList_inj.mp;simp only[Array.toList_map,Array.toList_zip];exact List.map_snd_zip (OF _)
  dsimp only;rw[e];refine Og (seqEpoch_at hL rfl (Og (listUpdate_at hL rfl ?_ (Nat.zero_le _) (by unfold gt;rw[if_pos q];show vs.length<=_;omega))));simp only[bne_self_eq_false,Bool.false_eq_true,if_false];exact Oi h
 .rw[if_neg q,if_neg q];have kp:∀b o,b≠a->s.heap.get? b=!o->(((s.heap.update a (Obj.mapSeq λ_=>#[])).push (seqObj "tuple" vs.toArray 0)).push (seqObj "list" #[] 0)).get? b=!o:=λb o hb ho=>
   Oh _ (Oh _ (by rw[Heap.get?_update_ne _ _ _ _ hb];exact ho))
  refine Og (OG (B.kd _ kp (!1) (λκ' s'=>κ'=κ/\s'=_) ⟨rfl,rfl⟩) ?_ λ_ _ z=>z.elim);rintro κ' _ ⟨e0,rfl⟩;rw[e0];refine Og (OG (kat_run (Q:=λst' s'=>(arrOf st').map (·.2)=(gt c vs).toArray/\failedOf st'=none/\(gt c vs).length=vs.length/\s'=_) rfl (!1) h64
   (G:=λp s'=>p=kRun c _/\s'=_) (λp st' s' a1 a2 a3 a4=>⟨?_,a3,?_,a4.2⟩) (qY (λi j C hi hj z=>B.cp _ kp i j hi hj C z) _ (qX (!1)) ⟨rfl,rfl⟩)) ?_ λ_ _ z=>z)
  .rw[kat_snds rfl a2,a4.1];unfold gt;rw[if_neg q]
  .unfold gt;rw[if_neg q,length_map,<-a4.1,Array.length_toList,a1]
  .rintro⟨⟨⟩,st'⟩ _ ⟨e1,e2,e3,rfl⟩;rw[e1];refine Og (seqEpoch_at hL rfl (Og (listUpdate_at hL rfl ?_ (Nat.zero_le _) ?_)))
   .rw[e2];simp only[bne_self_eq_false,Bool.false_eq_true,if_false];exact Oi h
   .show(gt c vs).length<=_;omega
def yi (hl:s.heap.IsList l vs.toArray) (h64:vs.length<64) (B:∀h':Heap,(∀b o,s.heap.get? b=!o->h'.get? b=!o)->SortBy prog w A.in1.in1 {s with heap:=h'} (!13) vs κ c) (h:Q (.ref (!13)) {s with heap:=sortedAll s.heap vs (gt c vs).toArray}):wpAny (!6) A (call (.builtin "sorted") [.ref l]) Q E s:=by
 have z64:vs.length<=sizeLine:=by rw[sizeLine_eq];omega
 refine Calls.call_function_entry kind_sorted plain_sorted entry_sorted (args_sorted1 _) ?_;refine Og (Oi (Og (collect_list hl (Og (wpAny_newList ?_ z64)) z64)));have e:((s.heap.push (seqObj "list" #[] 0)).update s.heap.objs.size (Obj.mapSeq (·++vs.toArray))).objs.size=s.heap.objs.size+1:=by rw[Heap.size_update,size_push']
 have hn:(((s.heap.push (seqObj "list" #[] 0)).update s.heap.objs.size (Obj.mapSeq (·++vs.toArray))).push (seqObj "list" vs.toArray 0)).get? (!13)=!(seqObj "list" vs.toArray 0):=by
  rw[<-e];exact Ol _ rfl
 have kp:∀b o,s.heap.get? b=!o->(((s.heap.push (seqObj "list" #[] 0)).update s.heap.objs.size (Obj.mapSeq (·++vs.toArray))).push (seqObj "list" vs.toArray 0)).get? b=!o:=λb o z=>by
  have lt:=Oj z;exact Oh _ (by rw[Heap.get?_update_ne _ _ _ _ (Nat.ne_of_lt lt)];exact Oh _ z)
 rw[e];refine Og (wpAny_holding (wpAny_call_entry slot_list_sort ⟨_,hn,rfl⟩ entry_list_sort (AE hn h64 (B _ kp) ⟨_,rfl,Oi ⟨_,rfl,h⟩⟩) (args_list_sort _)))
end
def u9:∀a:N9,HT.lexLt a a=false
 |[]=>rfl
 |x::a=>by rw[HT.lexLt_cons,if_pos rfl];exact u9 a
def qZ:∀a b:N9,HT.lexLt a b=true->HT.lexLt b a=false
 |[],[],_=>rfl
 |[],_::_,_=>rfl
 |_::_,[],h=>by cases h
 |x::a,y::b,h=>by
  rw[HT.lexLt_cons]at h⊢;by_cases q:x=y
  .rw[if_pos q]at h;rw[if_pos q.symm];exact qZ a b h
  .rw[if_neg q]at h;rw[if_neg (Ne.symm q)];have:=Oq h;exact decide_eq_false (!1)
def nk:∀k j i:N9,HT.lexLt k j=true->HT.lexLt i j=false->HT.lexLt k i=true
 |[],[],_,h,_=>by cases h
 |_::_,[],_,h,_=>by cases h
 |_,_::_,[],_,h=>by cases h
 |[],_::_,_::_,_,_=>rfl
 |x::k,y::j,z::i,h,g=>by
  rw[HT.lexLt_cons]at h g⊢;by_cases q:x=y
  .rw[if_pos q]at h;by_cases r:z=y
   .rw[if_pos r]at g;rw[if_pos (q.trans r.symm)];exact nk k j i h g
   .rw[if_neg r]at g;have:=of_decide_eq_false g;rw[if_neg (!1)];exact decide_eq_true (!1)
  .rw[if_neg q]at h;have h:=Oq h;by_cases r:z=y
   .rw[if_neg (!1)];exact decide_eq_true (!1)
   .rw[if_neg r]at g;have:=of_decide_eq_false g;rw[if_neg (!1)];exact decide_eq_true (!1)
def Hl (h:HT.lexLt a b=true) (g:HT.lexLt b c=true):HT.lexLt a c=true:=nk a b c h (qZ b c g)
def q0:∀a b:N9,HT.lexLt a b=false->HT.lexLt b a=false->a=b
 |[],[],_,_=>rfl
 |[],_::_,h,_=>by cases h
 |_::_,[],_,h=>by cases h
 |x::a,y::b,h,g=>by
  rw[HT.lexLt_cons]at h g;by_cases q:x=y
  .rw[if_pos q]at h;rw[if_pos q.symm]at g;rw[q,q0 a b h g]
  .rw[if_neg q]at h;rw[if_neg (Ne.symm q)]at g;have:=of_decide_eq_false h;have:=of_decide_eq_false g;omega
def Hn {l:N7} (h:∀x,p x=true->q x=true) (hy:y∈l) (h1:q y=true) (h2:p y=false):l.countP p<l.countP q:=by
 induction l with
 |nil=>cases hy
 |cons a l ih=>
  have m:l.countP p<=l.countP q:=List.countP_mono_left λx _ z=>h x z;rcases mem_cons.mp hy with rfl|hy
  .rw[List.countP_cons,List.countP_cons,h1,h2];simp;omega
  .have:=ih hy;rw[List.countP_cons,List.countP_cons];have z:(if p a=true then 1 else 0)<=(if q a=true then 1 else 0):=by
    cases e:p a with
    |true=>rw[h a e];simp
    |false=>simp
   omega
def  rk (n:Nat) (f:Nat->N9) (i:Nat):Int:=(((!16).countP λk=>HT.lexLt (f k) (f i):Nat):Int)
def Fp (hi:i<n):HT.lexLt (f i) (f j)=kC (rk n f) i j:=by
 unfold kC rk;cases e:HT.lexLt (f i) (f j)with
 |true=>
  refine(decide_eq_true ?_).symm;have:=Hn (λx h=>Hl h e) (OD.mpr hi) e (u9 _);omega
 |false=>
  refine(decide_eq_false ?_).symm;have:(!16).countP (λk=>HT.lexLt (f k) (f j))<=(!16).countP (λk=>HT.lexLt (f k) (f i)):=List.countP_mono_left λx _ h=>nk _ _ _ h e;omega
def nn (h:∀i j,i<n->j<n->c i j=c' i j):∀t:PySem.W.KasT α,kIn n (λ_=>True) t->kRun c t=kRun c' t
 |.ret _,_=>rfl
 |.ask i j k,z=>by
  show kRun c (k (c i j))=kRun c' (k (c' i j));rw[h i j z.1 z.2.1];exact nn h _ (z.2.2 _)
def  oJ (f:Nat->N9) (i j:Nat):Bool:=HT.lexLt (f i) (f j)
def cR (f:Nat->N9) (hn:1<=n):(kRun (oJ f) (PySem.W.kas_sort n)).toList.Perm (!16)/\(kRun (oJ f) (PySem.W.kas_sort n)).toList.Pairwise (λa b=>HT.lexLt (f b) (f a)=false):=by
 rw[nn (c:=oJ f) (λi j hi hj=>Fp hi) _ (qX hn)];let⟨h1,h2⟩:=DV hn;generalize kRun (kC (rk n f)) (PySem.W.kas_sort n)=p at h1 h2;have hp:p.toList.Perm (!16):=by simpa using h1.toList
 refine⟨hp,List.pairwise_iff_getElem.mpr λi j hi hj hij=>?_⟩;have hl:p.toList.length=n:=by rw[hp.length_eq,length_range]
 have z:=h2 i j (OC hij) (!1);have e:∀k (hk:k<p.toList.length),p.getD k 0=p.toList[k]:=λk hk=>by
  have:k<p.size:=by omega
  simp[Array.getD,this]
 unfold kG at z;rw[e i hi,e j hj]at z;have m:∀k (hk:k<p.toList.length),p.toList[k]<n:=λk hk=>OD.mp (hp.mem_iff.mp (List.getElem_mem hk));rw[Fp (m j hj)];exact decide_eq_false (!1)
def  jx:D->Option (Option Nat×List Int)
 |.int i=>!(none,[i])
 |.tup ds=>(bb ds).bind λns=>!(!ns.length,ns)
 |_=>none
def  eZ:Oc->Option (List (Option Nat)×List Int)
 |[]=>!([],[])
 |d::ds=>(jx d).bind λa=>(eZ ds).bind λr=>!(a.1::r.1,a.2++r.2)
def  pT:D->Option (List (Option Nat)×List Int)
 |.tup ds=>eZ ds
 |_=>none
def cJ:∀ {ds:Oc} {ns:N9},bb ds=!ns->ds=ns.map D.int
 |[],ns,h=>by cases h;rfl
 |d::ds,ns,h=>by
  cases d with
  |int i=>
   let⟨ms,e1,e2⟩:=OH (show(bb ds).bind (λxs=>!(i::xs))=some ns from h);cases e2;rw[cJ e1];rfl
  |_=>cases h
def yj (h:jx d=!(a,f)) (g:jx e=!(a,f)):d=e:=by
 cases d with
 |int i=>
  cases h;cases e with
  |int j=>cases g;rfl
  |tup es=>let⟨ns,_,z⟩:=OH g;cases z
  |_=>cases g
 |tup ds=>
  let⟨ns,h1,h2⟩:=OH h;cases h2;cases e with
  |int j=>cases g
  |tup es=>
   let⟨ms,g1,g2⟩:=OH g;injection g2 with g2;injection g2 with g3 g4;subst g4;rw[cJ h1,cJ g1]
  |_=>cases g
 |_=>cases h
noncomputable def  wid:Option Nat->Nat
 |none=>1
 |some n=>n
def im (h:jx d=!(a,f)):f.length=wid a:=by
 cases d with
 |int i=>cases h;rfl
 |tup ds=>let⟨ns,h1,h2⟩:=OH h;cases h2;rfl
 |_=>cases h
def np:∀ {ds es:Oc} {sh:List (Option Nat)} {f:N9},eZ ds=!(sh,f)->eZ es=!(sh,f)->ds=es
 |[],[],_,_,_,_=>rfl
 |[],e::es,_,_,h,g=>by
  cases h;let⟨a,_,g⟩:=OH g;let⟨r,_,g⟩:=OH g;cases g
 |d::ds,[],_,_,h,g=>by
  cases g;let⟨a,_,h⟩:=OH h;let⟨r,_,h⟩:=OH h;cases h
 |d::ds,e::es,sh,f,h,g=>by
  let⟨⟨a,x⟩,h1,h⟩:=OH h;let⟨⟨r,y⟩,h2,h⟩:=OH h;cases h;let⟨⟨a',x'⟩,g1,g⟩:=OH g;let⟨⟨r',y'⟩,g2,g⟩:=OH g;injection g with g;injection g with ga gb;injection ga with ga1 ga2;dsimp only at ga1 ga2 gb;subst ga1 ga2;let⟨q1,q2⟩:=List.append_inj gb ((im g1).trans (im h1).symm);subst q1 q2;rw[yj h1 g1,np h2 g2]
def  flt (d:D):N9:=match pT d with
 |some (_,f)=>f
 |none=>[]
def  cb (ds:Oc):Prop:=∃sh,sh≠[]/\∀d∈ds,∃f,pT d=!(sh,f)
instance (ds:Oc):Decidable (cb ds):=Classical.propDecidable _
def  oK (ds:Oc):Oc:=ds.mergeSort λa b=>not (HT.lexLt (flt b) (flt a))
def  sS:Oc->N3:=un1 λd=>(jp d).bind λds=>if ds.length<64/\cb ds then !(oK ds)else none
def AF (h:cb ds) (ha:a∈ds) (hb:b∈ds) (e:flt a=flt b):a=b:=by
 let⟨sh,_,z⟩:=h;let⟨f,e1⟩:=z a ha;let⟨g,e2⟩:=z b hb;unfold flt at e;rw[e1,e2]at e;subst e;cases a with
 |tup as=>
  cases b with
  |tup bs=>rw[np (e1) (e2)]
  |_=>cases e2
 |_=>cases e1
def j9 (ds:Oc):(oK ds).Perm ds:=List.mergeSort_perm _ _
def sT (ds:Oc):(oK ds).Pairwise λa b=>HT.lexLt (flt b) (flt a)=false:=by
 refine(List.pairwise_mergeSort (λa b c h1 h2=>?_) (λa b=>?_) ds).imp λh=>by simpa using h
 .simp only[Bool.not_eq_true']at h1 h2⊢;cases e:HT.lexLt (flt c) (flt a)with
  |false=>rfl
  |true=>rw[nk _ _ _ e h1]at h2;cases h2
 .cases e:HT.lexLt (flt b) (flt a)with
  |false=>rfl
  |true=>rw[qZ _ _ e];rfl
def rc (h:cb ds) (h1:rs.Perm ds) (h2:rs.Pairwise λa b=>HT.lexLt (flt b) (flt a)=false):rs=oK ds:=
 List.Perm.eq_of_pairwise (λa b ha hb x y=>AF h (h1.mem_iff.mp ha) ((j9 ds).mem_iff.mp hb) (q0 _ _ y x)) h2 (sT ds) (h1.trans (j9 ds).symm)
def bA {α:Type} (x:α):∀l:List α,(List.range l.length).map (λi=>l.getD i x)=l:=λl=>by
 apply List.ext_getElem
 .simp
 grind
def sV (h:cb ds) (hn:1<=ds.length):(kRun (oJ λi=>flt (ds.getD i .non)) (PySem.W.kas_sort ds.length)).toList.map (λi=>ds.getD i .non)=oK ds:=by
 let⟨h1,h2⟩:=cR (λi=>flt (ds.getD i .non)) hn;refine rc h ?_ (List.pairwise_map.mpr h2);have:=h1.map λi=>ds.getD i .non;rwa [bA]at this
section
variable {X:Cx} {pins:N1} {σ:St} {H:Hp} {s:Shared}
def vb:∀ {a b:N9} (x y:N9),a.length=b.length->HT.lexLt (a++x) (b++y)=if a=b then HT.lexLt x y else HT.lexLt a b
 |[],[],x,y,_=>by rw[if_pos rfl];rfl
 |[],_::_,_,_,h=>by cases h
 |_::_,[],_,_,h=>by cases h
 |u::a,v::b,x,y,h=>by
  rw[List.cons_append,List.cons_append,HT.lexLt_cons,HT.lexLt_cons,vb x y (Nat.succ.inj h)];by_cases q:u=v
  .rw[if_pos q,if_pos q];by_cases r:a=b
   .rw[if_pos r,if_pos (by rw[q,r])]
   .rw[if_neg r,if_neg (λz=>r (List.cons.inj z).2)]
  .rw[if_neg q,if_neg q,if_neg (λz=>q (List.cons.inj z).1)]
def sX:∀ (a b:N9),eqL (a.map D.int) (b.map D.int)=decide (a=b)
 |[],[]=>by simp[eqL]
 |[],_::_=>by simp[eqL]
 |_::_,[]=>by simp[eqL]
 |x::a,y::b=>by
  show((x==y)&&eqL (a.map D.int) (b.map D.int))=_;rw[sX a b];by_cases q:x=y
  .by_cases r:a=b
   .simp[q,r]
   .simp[q,r]
  .simp[q]
def nq (h:jx d=!z):okE d=true/\dep d<=1:=by
 cases d with
 |int i=>exact⟨rfl,Nat.zero_le _⟩
 |tup ds=>
  let⟨ns,h1,_⟩:=OH h;rw[cJ h1];have:∀ns:N9,okL (ns.map D.int)=true/\aQ (ns.map D.int)<=0:=λns=>by
   induction ns with
   |nil=>exact⟨rfl,OF _⟩
   |cons n ns ih=>
    refine⟨?_,?_⟩
    .show(okE (.int n)&&okL (ns.map D.int))=true;rw[ih.1];rfl
    .show max (dep (.int n)) (aQ (ns.map D.int))<=0;have:dep (.int n)=0:=rfl;omega
  exact⟨(this ns).1,by have:=(this ns).2;show aQ _+1<=1;omega⟩
 |_=>cases h
def AG (I:Inv X pins σ H s) (hu:A.units+1<cLine) (h1:jx d=!(a,f)) (h2:jx e=!(a,g)) (ix:Is X.K H d x) (iy:Is X.K H e y) (rx:RelV x p) (ry:RelV y q):
  SeqAt.EqAt A s p q (decide (f=g))/\∀ (b:Bool) (Q:Bool->Shared->Prop),(b=true->a=none)->Q (HT.lexLt f g) s->wpAny (!4) A (oneLt' b p q) Q (λ_ _=>False) s:=by
 have eq:=uL I 1 A d e x y p q (nq h1).2 (!1) (nq h1).1 (nq h2).1 ix iy rx ry
 cases d with
 |int i=>
  cases h1;cases e with
  |int j=>
   cases h2;refine⟨?_,λb Q hb hq=>?_⟩
   .have z:eqD (.int i) (.int j)=decide ([i]=[j]):=by
     show(i==j)=_;by_cases c:i=j
     .simp[c]
     .simp[c]
    rw[<-z];exact eq
   .cases(ix);cases(iy);let⟨t,rfl⟩:=rx;let⟨u,rfl⟩:=ry;have hq':Q (decide (i<j)) s:=by
     have z:HT.lexLt [i] [j]=decide (i<j):=by
      rw[HT.lexLt_cons];by_cases c:i=j
      .rw[if_pos c];exact(decide_eq_false (!1)).symm
      .rw[if_neg c]
     rw[<-z];exact hq
    cases b with
    |true=>exact oneLt_int hq'
    |false=>exact PySem.W.kat_one _ _ (lt_int hq')
  |tup es=>let⟨ms,_,z⟩:=OH h2;cases z
  |_=>cases h2
 |tup ds=>
  let⟨ns,h3,h4⟩:=OH h1;injection h4 with h4;injection h4 with h4 h4';subst h4 h4';cases e with
  |int j=>cases h2
  |tup es=>
   let⟨ms,h5,h6⟩:=OH h2;injection h6 with h6;injection h6 with h7 h8;subst h8;refine⟨?_,λb Q hb hq=>?_⟩
   .have z:eqD (.tup ds) (.tup es)=decide (ns=ms):=by
     show eqL ds es=_;rw[cJ h3,cJ h5,sX]
    rw[<-z];exact eq
   .cases b with
    |true=>cases hb rfl
    |false=>
     let⟨a1,xs,rfl,t1,l1⟩:=ix;let⟨a2,ys,rfl,t2,l2⟩:=iy;rw[bI h3 l1]at t1;rw[bI h5 l2]at t2;cases rx;cases ry;let⟨its,r1,p1,_⟩:=I.tuple t1;let⟨its2,r2,p2,_⟩:=I.tuple t2;exact PySem.W.kat_one _ _ (HT.lt_tupInts p1 p2 (wF r1) (wF r2) (!1) hq)
  |_=>cases h2
 |_=>cases h1
def pU (I:Inv X pins σ H s) (hu:A.units+1<cLine):∀ {ds es:Oc} {sh:List (Option Nat)} {f g:N9} {xs ys:List V} {ps qs:N5} (i:Nat),eZ ds=!(sh,f)->eZ es=!(sh,g)->IsL X.K H ds xs->IsL X.K H es ys->Vals xs ps->Vals ys qs->
  (b=true->i=0->sh.head?=!none)->fin=false->Q (HT.lexLt f g) s->PySem.W.KatLex X.prog X.w A b fin Q (ps.zip qs) i s
 |[],[],sh,f,g,xs,ys,ps,qs,i,h1,h2,l1,l2,r1,r2,hb,hf,hq=>by
  cases h1;cases h2;cases(show xs=[]from l1);cases(show ys=[]from l2);cases r1;cases r2;rw[hf];exact hq
 |[],e::es,sh,f,g,xs,ys,ps,qs,i,h1,h2,l1,l2,r1,r2,hb,hf,hq=>by
  cases h1;let⟨a,_,h2⟩:=OH h2;let⟨r,_,h2⟩:=OH h2;cases h2
 |d::ds,[],sh,f,g,xs,ys,ps,qs,i,h1,h2,l1,l2,r1,r2,hb,hf,hq=>by
  cases h2;let⟨a,_,h1⟩:=OH h1;let⟨r,_,h1⟩:=OH h1;cases h1
 |d::ds,e::es,sh,f,g,xs,ys,ps,qs,i,h1,h2,l1,l2,r1,r2,hb,hf,hq=>by
  let⟨⟨a,f1⟩,h3,h1⟩:=OH h1;let⟨⟨s1,f2⟩,h4,h1⟩:=OH h1;cases h1;let⟨⟨a',g1⟩,h5,h2⟩:=OH h2;let⟨⟨s2,g2⟩,h6,h2⟩:=OH h2;injection h2 with h2;injection h2 with h7 h8;injection h7 with h9 h10;dsimp only at h8 h9 h10;subst h8 h9 h10;let⟨x,xr,rfl,ix,l1⟩:=l1;let⟨y,yr,rfl,iy,l2⟩:=l2;cases r1 with
  |cons rx r1=>
   cases r2 with
   |cons ry r2=>
    let⟨c1,c2⟩:=AG I hu h3 h5 ix iy rx ry;dsimp only at hq;rw[vb f2 g2 ((im h3).trans (im h5).symm)]at hq;rw[List.zip_cons_cons];refine PySem.W.kat_cons (c1 X.prog X.w _ _ ?_);by_cases q:f1=g1
    .rw[if_pos q]at hq;rw[decide_eq_true q];exact PySem.W.kat_yes (pU I hu (i+1) h4 h6 l1 l2 r1 r2 (λ_ z=>absurd z (!1)) hf hq)
    .rw[if_neg q]at hq;rw[decide_eq_false q];refine PySem.W.kat_no (c2 _ _ (λz=>?_) hq);rw[and_eq_true,beq_iff_eq]at z;have:=hb z.1 z.2;injection this
end
section
variable {X:Cx} {a:Expr} {p pos:Pos}
def fQ {as:List α} {bs:List β} (h:Paired F as bs) (hi:i<as.length) (x:α) (y:β):F (as.getD i x) (bs.getD i y):=by
 let⟨z,e,f⟩:=fZ h (getElem?_eq_getElem hi);rw[List.getD_eq_getElem?_getD,List.getD_eq_getElem?_getD,getElem?_eq_getElem hi,e];exact f
def c7 {as:List α} {bs:List β} (h:Paired F as bs) (x:α) (y:β):∀ {l:N7},(∀i∈l,i<as.length)->Paired F (l.map λi=>as.getD i x) (l.map λi=>bs.getD i y)
 |[],_=>.nil
 |i::l,z=>.cons (fQ h (z i Oo) x y) (c7 h x y λj hj=>z j (Op _ hj))
def nr (h:pT d=!z):∃ds,d=.tup ds/\eZ ds=!z:=by
 cases d with
 |tup ds=>exact⟨ds,rfl,h⟩
 |_=>cases h
noncomputable def  kindT (sh:List (Option Nat)):Bool:=decide (sh.head?=!none)
def wK {σ:St} (I:Inv X pins σ H s) (hu:A.units+1<cLine) (il:IsL X.K H ds xs) (r:Vals xs us) (hne:sh≠[]) (hs:∀d∈ds,∃f,pT d=!(sh,f)) {a:Addr} (ha:s.heap.objs.size<=a) (h1:Heap) (k1:∀b o,s.heap.get? b=!o->h1.get? b=!o):SortBy X.prog X.w A {s with heap:=h1} a us (tuples' (kindT sh)) (oJ λi=>flt (ds.getD i .non)):=by
 have keep:∀h',(∀b o,b≠a->h1.get? b=!o->h'.get? b=!o)->Inv X pins σ H {s with heap:=h'}:=λh' k=>I.kept λb o q=>k b o (Ow (Ot (Oj q) ha)) (k1 b o q);have len1:=il.len;have len2:=r.length;refine⟨λh' k h2 Q hq=>?_,λh' k i j hi hj Q hq=>?_⟩
 .have J:=keep h' k;-- the first items
  have first:∀ {ds:Oc} {xs:List V} {us:N5},IsL X.K H ds xs->Vals xs us->(∀d∈ds,∃f,pT d=!(sh,f))->∃fs,PySem.W.KatTups h' us fs/\fs.length=us.length/\∀v∈fs,∀M,PySem.W.Looks M h' (typeOf v) (if kindT sh then .type "int"else .type "tuple"):=by
   intro ds;induction ds with
   |nil=>
    intro xs us il r _;cases(il);cases r;exact⟨[],trivial,rfl,λ_ z=>nomatch z⟩
   |cons d ds ih=>
    intro xs us il r hs;let⟨x,xr,rfl,ix,il⟩:=il;cases r with
    |cons rx r=>
     let⟨fs,q1,q2,q3⟩:=ih il r λe he=>hs e (Op _ he);let⟨f,e⟩:=hs d Oo;let⟨is,rfl,e⟩:=nr e;let⟨b,ys,rfl,t,l⟩:=ix;cases rx;let⟨its,rv,⟨o,p1,p2,n,p3⟩,_⟩:=J.tuple t;cases is with
     |nil=>cases e;exact absurd rfl hne
     |cons i0 is=>
      let⟨⟨a0,f1⟩,e1,e⟩:=OH e;let⟨⟨s1,f2⟩,e2,e⟩:=OH e;cases e;let⟨y,yr,rfl,iy,l⟩:=l;cases rv with
      |@cons _ v _ vr ry rv=>
       refine⟨v::fs,⟨⟨b,o,_,n,rfl,p1,p2,p3,rfl⟩,q1⟩,by rw[length_cons,length_cons,q2],λv' hv M=>?_⟩;rcases mem_cons.mp hv with rfl|hv
       .cases i0 with
        |int i=>
         cases e1;cases(iy);let⟨tk,rfl⟩:=ry;exact PySem.W.Looks.of_pure rfl
        |tup js=>
         let⟨ns,_,z⟩:=OH e1;cases z;let⟨c,zs,rfl,t2,l2⟩:=iy;cases ry;let⟨its2,rv2,⟨o2,w1,w2,_⟩,_⟩:=J.tuple t2;rw[<-w2];exact(PySem.W.Looks.ld w1).andThen .now
        |_=>cases e1
       .exact q3 v' hv M
  let⟨fs,q1,q2,q3⟩:=first il r hs
  refine PySem.W.kat_kind q1 (!1) (λv hv=>q3 v hv _) (by cases kindT sh<;>decide) ?_;have e:((if kindT sh then Value.type "int"else .type "tuple") !=Value.type "tuple")=kindT sh:=by cases kindT sh<;>decide
  rw[e];exact hq
 .have J:=keep h' k;have hi':i<ds.length:=by omega
  have hj':j<ds.length:=by omega
  have ix:=fQ il.paired hi' .non .non;have iy:=fQ il.paired hj' .non .non;have rx:=fQ r (i:=i) (!1) .non .none;have ry:=fQ r (i:=j) (!1) .non .none;let⟨f,e1⟩:=hs (ds.getD i .non) (by rw[List.getD_eq_getElem?_getD,getElem?_eq_getElem hi'];exact List.getElem_mem hi');let⟨g,e2⟩:=hs (ds.getD j .non) (by rw[List.getD_eq_getElem?_getD,getElem?_eq_getElem hj'];exact List.getElem_mem hj');have hq:Q (HT.lexLt (flt (ds.getD i .non)) (flt (ds.getD j .non))) {s with heap:=h'}:=hq;generalize ds.getD i .non=d at ix e1 hq;generalize ds.getD j .non=e at iy e2 hq;generalize xs.getD i .non=x at ix rx;generalize xs.getD j .non=y at iy ry;generalize us.getD i .none=u at rx;generalize us.getD j .none=v at ry;unfold flt at hq;rw[e1,e2]at hq;let⟨as,rfl,e1⟩:=nr e1;let⟨bs,rfl,e2⟩:=nr e2;let⟨b1,x1,rfl,t1,l1⟩:=ix;let⟨b2,x2,rfl,t2,l2⟩:=iy;cases rx;cases ry;let⟨it1,rv1,⟨o1,p1,_,n1,p3⟩,_⟩:=J.tuple t1;let⟨it2,rv2,⟨o2,w1,_,n2,w3⟩,_⟩:=J.tuple t2;have sz:∀ {ds:Oc} {sh:List (Option Nat)} {f:N9},eZ ds=!(sh,f)->ds.length=sh.length:=λ{ds}=>by
   induction ds with
   |nil=>intro sh f h;cases h;rfl
   |cons d ds ih=>
    intro sh f h;let⟨z,_,h⟩:=OH h;let⟨⟨r1,r2⟩,h2,h⟩:=OH h;cases h;rw[length_cons,length_cons,ih h2]
  have z1:it1.length=sh.length:=by rw[<-rv1.length,<-l1.len,sz e1]
  have z2:it2.length=sh.length:=by rw[<-rv2.length,<-l2.len,sz e2]
  refine PySem.W.kat_lt p1 p3 w1 w3 (pU J hu 0 e1 e2 l1 l2 rv1 rv2 (λhb _=>Oq hb) (decide_eq_false ?_) hq);show¬it1.length<it2.length;omega
def  Ho (K:Frag):List V->Hp->VK->Prop:=λvs H Q=>∃l ds xs,vs=[.ref l]/\SqL K H l xs/\IsL K H ds xs/\ds.length<64/\cb ds/\
 ∀ (q:Addr) (ls:N7),H q=none->(∀i∈ls,i<ds.length)->ls.map (λi=>ds.getD i .non)=oK ds->Q (.ref q) (upd H q (.lst (ls.map λi=>xs.getD i .non)))
def pw_1 {α:Type} {R:α->α->Prop}:∀ {l:List α},l.length<2->l.Pairwise R
 |[],_=>.nil
 |[_],_=>List.pairwise_singleton _ _
def vc {k:Nat} (hr:Room k X.A):fG X (.builtin "sorted") (Ho X.K):=by
 intro pins s σ H xs us Q I r h;let⟨l,ds,ys,rfl,hx,il,h64,hs,q⟩:=h;let⟨u,rfl,ru⟩:=gq r;cases ru;let⟨its,rv,pl,hz⟩:=I.list hx;have hl:=rv.length;have hd:=il.len;let⟨sh,hne,hs'⟩:=id hs;refine yi (κ:=tuples' (kindT sh)) (c:=oJ λi=>flt (ds.getD i .non)) pl.isList (!1) (λh' k'=>wK I (by have:=hr.un;show X.A.units+1+1+1<_;omega) il rv hne hs' (Nat.le_succ _) h' k') ?_;obtain⟨ls,e1,e2,e3⟩:∃ls:N7,gt (oJ λi=>flt (ds.getD i .non)) its=ls.map (λi=>its.getD i .none)/\(∀i∈ls,i<ds.length)/\ls.map (λi=>ds.getD i .non)=oK ds:=by
  unfold gt;by_cases c:its.length<2
  .rw[if_pos c];refine⟨List.range its.length,(bA _ _).symm,λi hi=>by have:=OD.mp hi;omega,?_⟩;rw[show its.length=ds.length by omega,bA];refine rc hs (.refl _) ?_;exact pw_1 (!1)
  .rw[if_neg c];refine⟨_,rfl,λi hi=>?_,?_⟩
   .have:=OD.mp ((cR _ (!1)).1.mem_iff.mp hi);omega
   .rw[show its.length=ds.length by omega];exact sV hs (!1)
 rw[e1];let⟨e,he⟩:=sortedAll_at s.heap its (ls.map λi=>its.getD i .none).toArray;have fr:H (!13)=none:=I.hok.fresh (Nat.le_succ _);have hln:(ls.map λi=>ys.getD i V.non).length<64:=by
  have:=congrArg List.length e3;rw[length_map,(j9 ds).length_eq]at this;rw[length_map];omega
 refine⟨.ref _,_,I.laid (t':=s.toks) (λb o q=>sortedAll_old q) (Nat.le_succ _) (o:=.lst (ls.map λi=>ys.getD i V.non)) ⟨?_,ls.map (λi=>its.getD i .none),e,c7 rv .non .none (λi hi=>by have:=e2 i hi;omega),by simpa using he⟩,rfl,q _ ls fr e2 e3⟩;have:(64:Nat)<=sizeLine:=by decide
 omega
def AH (hr:Room k X.A) (hg:Gl X "sorted") (hm:X.mg "sorted"=none) (ha:PX X [a] fa) (hs:starEach [a] X.env=[(false,eval a X.env)]):
  PF X (.Call (.Name "sorted" p) [a] [] pos) (λY=>(fa Y).bind sS):=λO Y=>(mC (vc hr) hg hm u6 (ha O Y) (!5) (!5) (by rw[hs];rfl) rfl).imp λσ H Q ⟨E,ds,q,k⟩=>by
 let⟨as,e1,q⟩:=OH q
 refine⟨E,as,e1,λvs H1 s1 il=>?_⟩
 let⟨c,rfl,q2⟩:=bh q
 let⟨xs,q3,q4⟩:=OH q2
 let⟨⟨h64,hs⟩,q7⟩:=ar q4
 subst q7
 let⟨v,rfl,h⟩:=is1 il
 let⟨l,ys,rfl,t,l2⟩:=bS q3 h
 refine⟨l,xs,ys,rfl,msk_le.seq t,l2.full,h64,hs,λb ls hb hls e=>k b _ H1 s1 hb ?_⟩
 rw[<-e]
 exact IsL.of (c7 l2.paired .non .non hls)
def  bN (ds:Oc):N3:=match jw ds with
 |some r=>!r
 |none=>sS ds
def jy (h:jw ds=!r):bN ds=!r:=by unfold bN;rw[h]
def DW (h:jw ds=none) (g:sS ds=!r):bN ds=!r:=by unfold bN;rw[h];exact g
def AI (hr:Room k X.A) (hg:Gl X "sorted") (hm:X.mg "sorted"=none) (ha:PX X [a] fa) (hs:starEach [a] X.env=[(false,eval a X.env)]):
  PF X (.Call (.Name "sorted" p) [a] [] pos) (λY=>(fa Y).bind bN):=λO Y=>by
 have h1:=DU (p:=p) (pos:=pos) hg hm ha hs O Y
 have h2:=AH (p:=p) (pos:=pos) hr hg hm ha hs O Y
 dsimp only at h1 h2⊢
 cases e:fa Y with
 |none=>rw[e]at h1;exact h1
 |some ds=>
  rw[e]at h1 h2;cases e2:jw ds with
  |some r=>
   have z:(!ds).bind bN=(!ds).bind jw:=by show bN ds=jw ds;rw[jy e2,e2]
   rw[z];exact h1
  |none=>
   have z:(!ds).bind bN=(!ds).bind sS:=by show bN ds=sS ds;unfold bN;rw[e2]
   rw[z];exact h2
end
section
variable {X:Cx} {a:Expr} {p p2 pos pos2:Pos}
def nt:∀ (l:N5) (k:Int),(∀ (i:Nat) (v:Value),l[i]?=!v->∃t,v=Value.int (k+(i:Int)) t)->Vals ((List.range l.length).map λ(i:Nat)=>V.int (k+(i:Int))) l
 |[],_,_=>.nil
 |v::l,k,h=>by
  rw[length_cons,List.range_succ_eq_map,List.map_cons,List.map_map];let⟨t,e⟩:=h 0 v rfl;refine .cons ⟨t,by simpa using e⟩ ?_;have:=nt l (k+1) λi w q=>by
   let⟨t,e⟩:=h (i+1) w (by simpa using q);exact⟨t,by rw[e];congr 1;omega⟩
  have e2:((List.range l.length).map λ(i:Nat)=>V.int (k+1+(i:Int)))=(List.range l.length).map ((λ(i:Nat)=>V.int (k+(i:Int)))∘Nat.succ):=by
   apply List.map_congr_left;intro i _;show V.int _=V.int _;congr 1;simp;omega
  rw[<-e2];exact this
def  tLr (ta:TA):TE:=λσ H Q=>ta σ H λvs H1=>∃j:Int,vs=[.int j]/\inR j/\j<1000000/\∀q,H1 q=none->Q (.ref q) (upd H1 q (.lst ((List.range j.toNat).map λ(i:Nat)=>V.int (i:Int))))
def DX (hc:X.calm=true) (hg:Gl X "list") (hm:X.mg "list"=none) (hg2:Gl X "range") (hm2:X.mg "range"=none) (ha:PA X [a] ta) (hs:starEach [a] X.env=[(false,eval a X.env)]):
  PE X (.Call (.Name "list" p) [.Call (.Name "range" p2) [a] [] pos2] [] pos) (tLr ta):=by
 intro pins s σ H Q I h
 refine wpAny_Call_Name_kw (cE I hg hm Kc (PyProof.Rows.callWith_type1 ?_ rfl rfl))
 show wpAny _ _ (spliced ((false,eval (.Call (.Name "range" p2) [a] [] pos2) X.env)::[])) _ _ s
 refine Calls.spliced_cons ?_
 refine wpAny_Call_Name_kw (cE I hg2 hm2 boot_range (PyProof.Rows.callWith_type1 (thn (ha pos2 pins s σ H _ I h) λus s1 ⟨vs,H1,I1,r1,q1⟩=>?_) (by rw[hs];rfl) rfl))
 let⟨j,rfl,hj,hj2,q⟩:=q1
 let⟨u,rfl,ru⟩:=gq r1
 let⟨t,rfl⟩:=ru
 have hj':=hj
 refine call_range_1 (Calls.spliced_nil ?_)
 have up:∀d o,s1.heap.get? d=!o->(s1.heap.push {cls:=.type "range",data:=.fields #[.int 0 s1.toks,.int j t,.int 1 (s1.toks+1)]}).get? d=!o:=λd o e=>Oh _ e
 have I2:Inv X pins σ H1 {s1 with heap:=s1.heap.push {cls:=.type "range",data:=.fields #[.int 0 s1.toks,.int j t,.int 1 _]},toks:=s1.toks+1+1}:=I1.kept up
 have hn:Builtin.Range.rangeSize 0 j 1=(j.toNat:Nat):=by rw[rangeSize_one];split<;>omega
 refine call_list_range (I1.ok.hd hc) (IsRange.new ..) (small_one (!1) (!1) hj'.1 hj'.2) hn (!1) λg tk acc c k hgS hi=>?_
 have fr:H1 (s1.heap.push {cls:=.type "range",data:=.fields #[.int 0 s1.toks,.int j t,.int 1 _]}).objs.size=none:=I2.hok.fresh (OF _)
 refine⟨.ref _,_,I2.laid (o:=.lst ((List.range j.toNat).map λ(i:Nat)=>V.int (i:Int))) k (OF _) ⟨?_,acc.toList,c,?_,by simpa using hgS⟩,rfl,q _ fr⟩
 .rw[length_map,length_range,sizeLine_eq];omega
 .have:=nt acc.toList 0 λi v e=>by
   let⟨t,z⟩:=hi.2 i v (by rw[<-Array.getElem?_toList];exact e);exact⟨t,by rw[z];congr 1;omega⟩
  rw[Array.length_toList,hi.1]at this;simpa using this
def  lrD:Oc->N3:=un1 λd=>(lH d).bind λj=>if inR j/\j<1000000 then !(jq 0 j.toNat)else none
def DY (hc:X.calm=true) (hg:Gl X "list") (hm:X.mg "list"=none) (hg2:Gl X "range") (hm2:X.mg "range"=none) (ha:PX X [a] fa) (hs:starEach [a] X.env=[(false,eval a X.env)]):
  PF X (.Call (.Name "list" p) [.Call (.Name "range" p2) [a] [] pos2] [] pos) (λY=>(fa Y).bind lrD):=λO Y=>(DX hc hg hm hg2 hm2 (ha O Y) hs).imp λσ H Q ⟨E,ds,q,k⟩=>by
 let⟨as,e1,q⟩:=OH q
 refine⟨E,as,e1,λvs H1 s1 il=>?_⟩
 let⟨c,rfl,q2⟩:=bh q
 let⟨j,q3,q4⟩:=OH q2
 let⟨h1,h2⟩:=ar q4
 subst h2
 let⟨v,rfl,h⟩:=is1 il
 cases intD_some q3
 refine⟨j,by rw[show v=.int j from h],h1.1,h1.2,λb hb=>k b _ H1 s1 hb ?_⟩
 have e:jq 0 j.toNat=((List.range j.toNat).map λ(i:Nat)=>(i:Int)).map D.int:=by unfold jq;rw[List.map_map];apply List.map_congr_left;intro i _;simp
 have e2:((List.range j.toNat).map λ(i:Nat)=>V.int (i:Int))=((List.range j.toNat).map λ(i:Nat)=>(i:Int)).map V.int:=by rw[List.map_map];rfl
 rw[e,e2]
 exact mZ _
end
section
variable {X:Cx} {e:Expr} {pos:Pos}
end
noncomputable def  insL (k:Nat) {α:Type} (l:List α) (x:α):List α:=l.take k++x::l.drop k
def DeepL.appR {K} (h2:DeepL K M H es ys C):∀ {ds:Oc} {xs:List V} {A:List Addr},DeepL K M H ds xs A->DeepL K M H (ds++es) (xs++ys) (A++C)
 |[],xs,A,h=>by let⟨rfl,rfl⟩:=h;exact h2
 |d::ds,xs,A,⟨x,r,A1,A2,e1,e2,g1,g2⟩=>by
  subst e1 e2;exact⟨x,r++ys,A1,A2++C,rfl,List.append_assoc ..,g1,DeepL.appR h2 g2⟩
def DeepL.cutAt {K}:∀ {ds:Oc} {xs:List V} {A:List Addr} (k:Nat),DeepL K M H ds xs A->∃A1 A2,A=A1++A2/\DeepL K M H (ds.take k) (xs.take k) A1/\DeepL K M H (ds.drop k) (xs.drop k) A2
 |ds,xs,A,0,h=>⟨[],A,rfl,⟨rfl,rfl⟩,h⟩
 |[],xs,A,k+1,h=>by let⟨rfl,rfl⟩:=h;exact⟨[],[],rfl,⟨rfl,rfl⟩,⟨rfl,rfl⟩⟩
 |d::ds,xs,A,k+1,⟨x,r,A1,A2,e1,e2,g1,g2⟩=>by
  subst e1 e2;let⟨B1,B2,e,q1,q2⟩:=DeepL.cutAt k g2;subst e;exact⟨A1++B1,B2,(List.append_assoc ..).symm,⟨x,_,A1,B1,rfl,rfl,g1,q1⟩,q2⟩
def Kj (k:Nat):lsW (insL k):=λ{K M H ds xs A A1 d v} h q nd=>by
 let⟨B1,B2,rfl,q1,q2⟩:=DeepL.cutAt k h;have q3:DeepL K M H (d::ds.drop k) (v::xs.drop k) (A1++B2):=⟨v,_,A1,B2,rfl,rfl,q,q2⟩;refine⟨B1++(A1++B2),DeepL.appR q3 q1,?_,λb hb=>?_⟩;all_goals grind
def IsL.takeD {K}:∀ {ds:Oc} {xs:List V} (k:Nat),IsL K M ds xs->IsL K M (ds.take k) (xs.take k)/\IsL K M (ds.drop k) (xs.drop k)
 |ds,xs,0,h=>⟨rfl,h⟩
 |[],xs,k+1,h=>by cases(show xs=[]from h);exact⟨rfl,rfl⟩
 |d::ds,xs,k+1,⟨x,r,e,g1,g2⟩=>by
  subst e;let⟨q1,q2⟩:=IsL.takeD k g2;exact⟨⟨x,_,rfl,g1,q1⟩,q2⟩
def Kk (k:Nat):lsI (insL k):=λh q=>(IsL.takeD k h).1.app ⟨_,_,rfl,q,(IsL.takeD k h).2⟩
def Vals.ins (k:Nat) (r:Vals xs us) (ru:RelV y u):Vals (insL k xs y) (insL k us u):=(r.take k).append (.cons ru (r.drop k))
def  DZ:V->List V->Hp->VK->Prop:=λx vs H Q=>∃ (l:Addr) (xs:List V) (i:Int) (k:Nat) (y:V),x=.ref l/\vs=[.int i,y]/\i=(k:Int)/\H l=!(.lst xs)/\k<=xs.length/\xs.length<sizeLine/\Q .non (upd H l (.lst (insL k xs y)))
def D0 (its:N5) (x:Int) (k:Nat) (u:Value) (hx:x=(k:Int)) (hk:k<=its.length):(its.toArray.extract 0 (if x<0 then(x+((its.toArray.size:Nat):Int)).toNat else min x.toNat its.toArray.size)).push u++its.toArray.extract (if x<0 then(x+((its.toArray.size:Nat):Int)).toNat else min x.toNat its.toArray.size)=(insL k its u).toArray:=by grind [insL]
def yk:MtM X "list.insert" DZ:=by
 intro pins s σ H x vs v us Q I rx rv h;let⟨l,xs,i,k,y,rfl,rfl,hi,hH,hk,hz,q⟩:=h;cases rx;cases rv with
 |cons r1 r2=>
 let⟨u,rfl,ru⟩:=(show Vals [y] _ from r2).one;let⟨t,rfl⟩:=r1;let⟨z,its,n,r,hl,e⟩:=I.lstM hH;have hf:Builtin.List.listFitsIndex i=true:=by
  have:sizeLine<2^63:=by decide
  unfold Builtin.List.listFitsIndex;simp only[and_eq_true,decide_eq_true_eq];omega
 refine call_meets F.slot_list_insert ⟨_,e,rfl⟩ F.entry_list_insert (F.args_list_insert_3 _ _ _) (AutoSeq1.list_insert_list_int_val_1 l its.toArray n i t u (by simp[hf]) (by rw[size_toArray];omega)) ⟨e,?_⟩;refine⟨.non,_,I.lset hH e ?_ (r.ins k ru) ?_,rfl,q⟩
 .exact D0 its i k u hi (!1)
 .unfold insL;rw[length_append,length_cons,List.length_take,List.length_drop];omega
section
variable {X:Cx} {e:Expr} {pos:Pos}
noncomputable def  D1 (n:Nat) (d:D):Option Nat:=match d with
 |.int i=>if 0<=i/\i<=(n:Int)then !i.toNat else none
 |_=>none
def ym (h:D1 n d=!k):d=.int (k:Int)/\k<=n:=by
 unfold D1 at h;grind
def  AJ (i:Nat) (fk R:wp):Cl:=λY=>(ownL Y i).bind λw=>(fk (shv Y)).bind λy=>(D1 w.2.length y).bind λk=>(lfO (R (shv Y))).bind λd=>
 if w.2.length+1<big then !(.nx (Y.set i (!(newCat w.1 (.deep,d),.lst (insL k w.2 d)))))else none
def yn (i:Nat) (hk:PP X ek fk) (h:PP X e R) (hN:X.N[i]?=!x) (hv:Vis X.env.scope x) (hd:(!7)=false) (hcd:(!12)=false) (hst:starEach [ek,e] X.env=(false,eval ek X.env)::starEach [e] X.env) (hst2:starEach [e] X.env=(false,eval e X.env)::starEach [] X.env) (hline:(apos.endLine==cpos.line)=true):
  PR X (.Expr (.Call (.Attribute (!18) "insert" apos) [ek,e] [] cpos) pos) (AJ i fk R):=λB O Y=>
 (eF (kW PySem.F.plainAttrs_list PySem.F.slot_list_insert PySem.F.type_list_insert yk (bT hN hv hd hcd) (bq (hk O _) (bq (h O _) pa_nil hst2) hst) rfl (by rw[hst,hst2];rfl) hline hst (by rw[hst2];rfl))).imp λEn σ H ⟨E,o,q,k⟩=>by
 let⟨⟨c,ds⟩,q1,q⟩:=OH q
 let⟨y,q2,q⟩:=OH q
 let⟨j,q3,q⟩:=OH q
 let⟨d,q4,q⟩:=OH q
 let⟨hz,q⟩:=ar q
 subst q
 let⟨h0,hc0⟩:=bJ q1
 let⟨d',p5,p6⟩:=OH q4
 let⟨lf,p7⟩:=ar p6
 subst p7
 let⟨ey,hj⟩:=ym q3
 subst ey
 let⟨a,xs0,e1,r3,_⟩:=E.ownAt h0 hc0
 refine⟨.ref a,e1,.inl ⟨rfl,_,SqL.of r3⟩,E.viewS,_,q2,λyv H1 s1 iy=>?_⟩
 cases(iy)
 have E1:=E.grow s1
 refine⟨E1.viewS,d',p5,λv H2 s2 iv=>?_⟩
 have E2:=E1.grow s2
 have E3:=E2.moreS iv
 have ex:extS d'=(.deep,d'):=by unfold extS;rw[if_pos lf]
 rw[ex]at E3
 let⟨a',xs,e2,r4,hl,O2,E4,s4⟩:=E3.change (insL j) (Kj j) (Kk j) h0 hc0
 rw[e1]at e2
 cases e2
 exact⟨a,xs,_,j,v,rfl,rfl,rfl,r4,by rw[<-hl];exact hj,by rw[f6,<-hl];exact Nat.lt_of_succ_lt hz,k σ _ O2 (s1.msk.trans (s2.msk.trans s4)) E4⟩
end
section
variable {X:Cx} {e:Expr} {pos:Pos}
def PS.ex {e} {ι:Type} {t:ι->TS} (h:∀z,PS X e (t z)):PS X e (λD σ H=>∃z,t z D σ H):=λpins s σ H D I ⟨z,q⟩=>h z pins s σ H D I q
def AK {st} (is:N7) (h:PR X st F):PR X st (λY=>F (frzS is Y)):=λB O Y=>(PS.ex λO'=>h B O' _).imp λEn σ H ⟨E,out,q,k⟩=>by
 let⟨O',E',le⟩:=E.frzS is;exact⟨O',E',out,q,k.mono le⟩
end
section
variable {X:Cx} {e:Expr} {pos:Pos}
end
def DeepL.subT {K} (f:{α:Type}->List α->α->List α) (hf:lsX f) (lc:lfD c=true) (lf:lfD d=true) (hi:Is K M d v):∀ {ds:Oc} {xs:List V} {A:List Addr} {j:Nat},DeepL K M H ds xs A->A.Nodup->ds[j]?=!(.tup [c,.lst ds2])->
  ∃b u a ys,xs[j]?=!(.ref b)/\M b=!(.tup [u,.ref a])/\a∈A/\H a=!(.lst ys)/\ds2.length=ys.length/\DeepL K M (upd H a (.lst (f ys v))) (ds.set j (.tup [c,.lst (f ds2 d)])) xs A
 |[],xs,A,j,h,nd,e=>by simp at e
 |d0::ds,xs,A,0,⟨x,r,A1,A2,e1,e2,h1,h2⟩,nd,e=>by
  simp at e;subst e;let⟨b,ts,z1,z2,l⟩:=h1;let⟨u,r2,B1,B2,y1,y2,l1,l2⟩:=l;have hB1:B1=[]:=Deep.lf c u B1 lc l1;let⟨x3,r3,C1,C2,w1,w2,l3,l4⟩:=l2;let⟨l5,l6⟩:=l4;subst l5 l6 hB1;let⟨a,ys,A',g1,g2,g3,l⟩:=l3;subst z1 e1 g1 w1 y1;have z3:M b=!(.tup [u,.ref a]):=by
   rcases z2 with z2|⟨z2,_⟩
   .exact z2
   .have:(lfD c&&(lfD (.lst ds2)&&true))=true:=z2;rw[and_eq_true]at this;exact absurd this.2 (by show¬ ((false&&true)=true);decide)
  have hA1:A1=a::A':=by rw[y2,w2,g3];simp
  subst e2 hA1;have n1:a ∉ A'/\a ∉ A2:=by
   have:=(List.nodup_cons.mp (show(a::(A'++A2)).Nodup from nd)).1;simp at this;exact this
  have fr:∀ (L:List Addr),a ∉ L->∀b∈L,∀o,H b=!o->upd H a (.lst (f ys v)) b=!o:=λL n b hb o q=>by rw[ae (show b≠a fromλz=>n (z▸hb))];exact q
  refine⟨b,u,a,ys,rfl,z3,by simp,g2,DeepL.len l,_,_,a::A',A2,rfl,rfl,⟨b,_,rfl,.inl z3,u,[.ref a],[],a::A',rfl,rfl,Deep.frame (NL.of (Same.refl _)) _ _ _ (λ_ h=>(nomatch h)) l1,.ref a,[],a::A',[],rfl,by simp,⟨a,f ys v,A',rfl,ai,rfl,?_⟩,rfl,rfl⟩,DeepL.frame (NL.of (Same.refl _)) _ _ _ (fr A2 n1.2) h2⟩;exact hf (DeepL.frame (NL.of (Same.refl _)) _ _ _ (fr A' n1.1) l) (Is.deep d v lf hi)
 |d0::ds,xs,A,j+1,⟨x,r,A1,A2,e1,e2,h1,h2⟩,nd,e=>by
  subst e1 e2;let⟨n1,n2,n3⟩:=List.nodup_append.mp nd;let⟨b,u,a,ys,f0,f1,f2,f3,f4,f5⟩:=DeepL.subT f hf lc lf hi h2 n2 (show ds[j]?=some (.tup [c,.lst ds2])by simpa using e);have na:a ∉ A1:=λz=>n3 a z a f2 rfl;refine⟨b,u,a,ys,by simpa using f0,f1,OA _ f2,f3,f4,x,r,A1,A2,rfl,rfl,Deep.frame (NL.of (Same.refl _)) _ _ _ (λb hb o q=>?_) h1,f5⟩;rw[ae (show b≠a fromλz=>na (z▸hb))];exact q
section
variable {K:Frag} {B:Bs} {O:Oa} {σ:St} {H:Hp} {Y:Ev}
def EnvOk.changeT (E:EnvOk K B O σ H Y) (f:{α:Type}->List α->α->List α) (hf:lsX f) {i j:Nat} (h:Y[i]?=!(!(.deep,.lst ds))) (hj:ds[j]?=!(.tup [c,.lst ds2])) (lc:lfD c=true) (lf:lfD d=true) (hi:Is K (msk O H) d v):
  ∃a xs b u a2 ys,σ[i]?=!(!(.ref a))/\H a=!(.lst xs)/\ds.length=xs.length/\xs[j]?=!(.ref b)/\H b=!(.tup [u,.ref a2])/\H a2=!(.lst ys)/\ds2.length=ys.length/\
   EnvOk K B O σ (upd H a2 (.lst (f ys v))) (Y.set i (!(.deep,.lst (ds.set j (.tup [c,.lst (f ds2 d)])))))/\Same (msk O H) (msk O (upd H a2 (.lst (f ys v)))):=by
 let⟨F,h1,h2,h3,h4⟩:=E.fp
 let⟨v0,e0,o0⟩:=h1 i _ h
 let⟨a,xs,A',z1,z2,z3,l⟩:=o0
 subst z1
 have nd:=h2 i
 rw[z3]at nd
 let⟨nA,ndA⟩:=List.nodup_cons.mp nd
 let⟨b,u,a2,ys,f0,f1,f2,f3,f4,f5⟩:=DeepL.subT f hf lc lf hi l ndA hj
 have ha2:a2∈F i:=by rw[z3];exact Op _ f2
 let⟨o2,b2⟩:=h4 i a2 ha2
 have me:msk O (upd H a2 (.lst (f ys v)))=msk O H:=eH o2
 have le:Same (msk O H) (msk O (upd H a2 (.lst (f ys v)))):=by rw[me];exact Same.refl _
 have ne:a≠a2:=λz=>nA (z▸f2)
 refine⟨a,xs,b,u,a2,ys,e0,z2,DeepL.len l,f0,msk_le _ _ f1,f3,f4,⟨λb o q=>?_,E.bdom,E.sub,λb hb=>?_,by rw[List.length_set];exact E.len,F,λk s q=>?_,h2,h3,h4⟩,le⟩
 .rw[ae (ak q b2)];exact E.same b o q
 .by_cases e:b=a2
  .subst e;exact .inl ⟨_,ai⟩
  .rw[ae e];exact E.lis b hb
 .rcases get_set_some q with⟨e,q'⟩|⟨e,q'⟩
  .cases q';subst e;refine⟨.ref a,e0,a,xs,A',rfl,by rw[ae ne];exact z2,z3,?_⟩;rw[me];exact f5
  .let⟨w,e1,o1⟩:=h1 k s q';refine⟨w,e1,o1.frame le λb hb o z=>?_⟩;have:b≠a2:=λz2=>e (h3 k i a2 (z2▸hb) ha2);rw[ae this];exact z
end
section
variable {X:Cx} {e:Expr} {pos:Pos}
noncomputable def  sY (ds:Oc):Option (Nat×D×List D):=if ds.isEmpty=true then none else match ds[ds.length-1]? with
 |some (.tup [c,.lst ds2])=>if lfD c=true then !(ds.length-1,c,ds2)else none
 |_=>none
def vd (h:sY ds=!(m,c,ds2)):ds.length=m+1/\ds[m]?=!(.tup [c,.lst ds2])/\lfD c=true:=by grind [sY,lfD]
def ve (h:wC Y i=!ds):Y[i]?=!(!(.deep,.lst ds)):=by
 let⟨⟨c,ds'⟩,p1,p2⟩:=OH h;let⟨p3,p4⟩:=ar p2;subst p3 p4;exact(bJ p1).1
end
section
variable {X:Cx} {e:Expr} {pos:Pos}
def  yo (i:Nat) (R:wp):Cl:=λY=>(wC Y i).bind λds=>(sY ds).bind λw=>(R (shv Y)).bind λd=>
 if lfD d=true/\w.2.2.length+1<big then !(.nx (Y.set i (!(.deep,.lst (ds.set w.1 (.tup [w.2.1,.lst (w.2.2++[d])]))))))else none
def Hq (i:Nat) (h:PP X e R) (hk1:PP X k1 λ_=>!(.int (-1))) (hk2:PP X k2 λ_=>!(.int 1)) (hx1:eG k1) (hx2:eG k2) (hN:X.N[i]?=!x) (hv:Vis X.env.scope x) (hd:(!7)=false) (hcd:(!12)=false) (hst:starEach [e] X.env=(false,eval e X.env)::starEach [] X.env) (hline:(apos.endLine==cpos.line)=true):
  PR X (.Expr (.Call (.Attribute (.Subscript (.Subscript (!18) k1 sp1) k2 sp2) "append" apos) [e] [] cpos) pos) (yo i R):=λB O Y=>
 (eF (kW PySem.F.plainAttrs_list PySem.F.slot_list_append PySem.F.type_list_append j3 (we ix_tup (we ix_list (bT hN hv hd hcd) (hk1 noO (vw Y)) hx1) (hk2 noO (vw Y)) hx2)
  (bq (h O _) pa_nil hst) rfl (by rw[hst];rfl) hline hst rfl)).imp λEn σ H ⟨E,o,q,k⟩=>by
 let⟨ds,q1,q⟩:=OH q
 let⟨⟨m,c,ds2⟩,q2,q⟩:=OH q
 let⟨d,q4,q⟩:=OH q
 let⟨⟨ld,hz2⟩,q⟩:=ar q
 subst q
 have h0:=ve q1
 let⟨hm,hjm,lc⟩:=vd q2
 let⟨a,xs,b,u,a2,ys,g1,g2,g3,g4,g5,g6,g7,_⟩:=E.changeT fK qV (d:=.non) h0 hjm lc rfl rfl
 refine⟨.ref a,g1,E.view,_,rfl,λyv H1 s1 iy=>?_⟩
 cases(iy)
 have E1:=E.grow s1
 refine⟨a,xs,-1,.ref b,rfl,rfl,SqL.of (s1 _ _ g2),?_,E1.view,_,rfl,λyv2 H2 s2 iy2=>?_⟩
 .have e:ixN xs.length (-1)=!m:=by
   unfold ixN;rw[if_neg (!5),<-g3,hm];rw[if_pos (!1)];congr 1;omega
  unfold atI;rw[e];exact g4
 cases(iy2);have E2:=E1.grow s2;have s12:=s1.trans s2;refine⟨b,[u,.ref a2],1,.ref a2,rfl,rfl,SqT.of (s12 _ _ g5),rfl,.inl ⟨rfl,_,SqL.of (s12 _ _ g6)⟩,E2.viewS,d,q4,λv H3 s3 iv=>?_⟩;have s13:=s12.trans s3;let⟨a',xs',b',u',a2',ys',k1,k2,k3,k4,k5,k6,k7,k8,k9⟩:=(E2.grow s3).changeT fK qV h0 hjm lc ld iv;rw[g1]at k1;cases k1;rw[s13 _ _ g2]at k2;cases k2;rw[g4]at k4;cases k4;rw[s13 _ _ g5]at k5;cases k5;exact⟨a2,ys',v,rfl,rfl,k6,by rw[f6,<-k7];exact Nat.lt_of_succ_lt hz2,k σ _ O (s13.msk.trans k9) k8⟩
end
section
variable {X:Cx} {pos:Pos}
def  rtP (c:Str) (i:Nat):Cl:=λY=>(eB Y i).bind λs=>match s with
 |(.deep,d)=>!(.rt (.deep,.tup [.str c,d]))
 |_=>none
def vf (i:Nat) (c:Str) {j x1} (hN:X.N[i]?=!x) (hv:Vis X.env.scope x) (hd:(!7)=false) (hcd:(!12)=false):PR X (.Return (!(.Tuple [.Constant (.str c) j p1,.Name x px] x1 p2)) pos) (rtP c i):=λB O Y=>
 (ut (uD (bq pe_str (bq (bT hN hv hd hcd) pa_nil)))).imp λEn σ H ⟨E,o,q,k⟩=>by
 let⟨⟨ct,d⟩,q1,q2⟩:=OH q;cases ct with
 |sh=>cases q2
 |top=>cases q2
 |deep=>
  cases q2;let⟨F,h1,h2,h3,h4⟩:=E.fp;let⟨v,e,ow⟩:=h1 i _ (bY q1);refine⟨v,e,show 2<=sizeLine by decide,λp hp=>k _ _ ?_⟩;have hne:∀b o,H b=!o->(upd H p (.tup [.str c,v])) b=!o:=λb o hb=>by
   rw[ae λz=>by rw[z,hp]at hb;cases hb];exact hb
  have hO:∀b,O b=true->b≠p:=λb hb z=>by
   have hh:=E.lis b hb;rw[z,hp]at hh;rcases hh with⟨_,w⟩|⟨_,_,_,w⟩|⟨_,w⟩<;>cases w
  have sm:Same (msk O H) (msk O (upd H p (.tup [.str c,v]))):=λb o hb=>by
   let⟨m1,m2⟩:=aJ hb;rw[aA m1];exact hne b o m2
  refine⟨O,F i,λb o hb=>hne b o (E.same b o hb),E.sub,λb hb=>by rw[ae (hO b hb)];exact E.lis b hb,h2 i,h4 i,?_⟩;have dd:=OwnC.frame sm (λa _ o ha=>hne a o ha) ow;have hp2:(msk O (upd H p (.tup [.str c,v]))) p=!(.tup [.str c,v]):=by
   rw[aA (by cases hq:O p with
    |false=>rfl
    |true=>exact absurd rfl (hO p hq)),ai]
  exact⟨p,[.str c,v],rfl,.inl hp2,.str c,[v],[],F i,rfl,rfl,⟨rfl,rfl⟩,v,[],F i,[],rfl,(List.append_nil _).symm,dd,rfl,rfl⟩
end
section
variable {K:Frag} {B:Bs} {O:Oa} {σ:St} {H:Hp} {Y:Ev}
def EnvOk.changeP (E:EnvOk K B O σ H Y) (f:{α:Type}->List α->α->List α) (hf:lsX f) {i:Nat} (h:Y[i]?=!(!(.deep,.tup [c,.lst ds2]))) (lc:lfD c=true) (lf:lfD d=true) (hi:Is K (msk O H) d v):
  ∃b u a2 ys,σ[i]?=!(!(.ref b))/\H b=!(.tup [u,.ref a2])/\H a2=!(.lst ys)/\ds2.length=ys.length/\
   EnvOk K B O σ (upd H a2 (.lst (f ys v))) (Y.set i (!(.deep,.tup [c,.lst (f ds2 d)])))/\Same (msk O H) (msk O (upd H a2 (.lst (f ys v)))):=by
 let⟨F,h1,h2,h3,h4⟩:=E.fp
 let⟨v0,e0,o0⟩:=h1 i _ h
 have l:DeepL K (msk O H) H [.tup [c,.lst ds2]] [v0] (F i):=⟨v0,[],F i,[],rfl,(List.append_nil _).symm,o0,rfl,rfl⟩
 let⟨b,u,a2,ys,f0,f1,f2,f3,f4,f5⟩:=DeepL.subT (j:=0) f hf lc lf hi l (h2 i) rfl
 cases f0
 let⟨o2,b2⟩:=h4 i a2 f2
 have me:msk O (upd H a2 (.lst (f ys v)))=msk O H:=eH o2
 have le:Same (msk O H) (msk O (upd H a2 (.lst (f ys v)))):=by rw[me];exact Same.refl _
 refine⟨b,u,a2,ys,e0,msk_le _ _ f1,f3,f4,⟨λb o q=>?_,E.bdom,E.sub,λb hb=>?_,by rw[List.length_set];exact E.len,F,λk s q=>?_,h2,h3,h4⟩,le⟩
 .rw[ae (ak q b2)];exact E.same b o q
 .by_cases e:b=a2
  .subst e;exact .inl ⟨_,ai⟩
  .rw[ae e];exact E.lis b hb
 .rcases get_set_some q with⟨e,q'⟩|⟨e,q'⟩
  .cases q';subst e;refine⟨.ref b,e0,?_⟩;let⟨x,r,A1,A2,g1,g2,g3,g4⟩:=f5;cases g1;let⟨_,g5⟩:=g4;rw[g5,List.append_nil]at g2;rw[g2];show Deep K (msk O (upd H a2 (.lst (f ys v)))) _ _ _ _;rw[me];exact g3
  .let⟨w,e1,o1⟩:=h1 k s q';refine⟨w,e1,o1.frame le λb hb o z=>?_⟩;have:b≠a2:=λz2=>e (h3 k i a2 (z2▸hb) f2);rw[ae this];exact z
end
section
variable {X:Cx} {e:Expr} {pos:Pos}
noncomputable def  AL:N2->Option (D×List D)
 |some (.deep,.tup [c,.lst ds])=>!(c,ds)
 |_=>none
def vg (h:AL o=!(c,ds)):o=!(.deep,.tup [c,.lst ds]):=by
 unfold AL at h;split at h
 .cases h;rfl
 .cases h
def  apP (i:Nat) (R:wp):Cl:=λY=>(AL (eB Y i)).bind λw=>(R (shv Y)).bind λd=>
 if lfD w.1=true/\lfD d=true/\w.2.length+1<big then !(.nx (Y.set i (!(.deep,.tup [w.1,.lst (w.2++[d])]))))else none
def Hr (i:Nat) (h:PP X e R) (hk:PP X k1 λ_=>!(.int 1)) (hx:eG k1) (hN:X.N[i]?=!x) (hv:Vis X.env.scope x) (hd:(!7)=false) (hcd:(!12)=false) (hst:starEach [e] X.env=(false,eval e X.env)::starEach [] X.env) (hline:(apos.endLine==cpos.line)=true):
  PR X (.Expr (.Call (.Attribute (.Subscript (!18) k1 sp) "append" apos) [e] [] cpos) pos) (apP i R):=λB O Y=>
 (eF (kW PySem.F.plainAttrs_list PySem.F.slot_list_append PySem.F.type_list_append j3 (we ix_tup (bT hN hv hd hcd) (hk noO (vw Y)) hx)
  (bq (h O _) pa_nil hst) rfl (by rw[hst];rfl) hline hst rfl)).imp λEn σ H ⟨E,o,q,k⟩=>by
 let⟨⟨c,ds2⟩,q1,q⟩:=OH q
 let⟨d,q4,q⟩:=OH q
 let⟨⟨lc,ld,hz⟩,q⟩:=ar q
 subst q
 have h0:=bY (vg q1)
 let⟨b,u,a2,ys,g1,g5,g6,g7,_⟩:=E.changeP fK qV (d:=.non) h0 lc rfl rfl
 refine⟨.ref b,g1,E.view,_,rfl,λyv H1 s1 iy=>?_⟩
 cases(iy)
 have E1:=E.grow s1
 refine⟨b,[u,.ref a2],1,.ref a2,rfl,rfl,SqT.of (s1 _ _ g5),rfl,.inl ⟨rfl,_,SqL.of (s1 _ _ g6)⟩,E1.viewS,d,q4,λv H3 s3 iv=>?_⟩
 have s13:=s1.trans s3
 let⟨b',u',a2',ys',k1,k5,k6,k7,k8,k9⟩:=(E1.grow s3).changeP fK qV h0 lc ld iv
 rw[g1]at k1
 cases k1
 rw[s13 _ _ g5]at k5
 cases k5
 exact⟨a2,ys',v,rfl,rfl,k6,by rw[f6,<-k7];exact Nat.lt_of_succ_lt hz,k σ _ O (s13.msk.trans k9) k8⟩
end
def EnvOk.lastSh {K} (E:EnvOk K B O (σ++[!v]) H (Y++[!s])):∃O',EnvOk K B O' σ H Y/\Same (msk O H) (msk O' H)/\Is K (msk O' H) s.2 v:=by
 have hlen:σ.length=Y.length:=by have:=E.len;rw[length_append,length_append]at this;exact Nat.add_right_cancel this
 let⟨O',E',le⟩:=E.frz1 Y.length;have e:L2.frz1 Y.length (Y++[!s])=Y++[!(.sh,s.2)]:=by
  unfold L2.frz1;rw[getElem?_append_right (le_refl _),Nat.sub_self];show(Y++[!s]).set Y.length (!(.sh,s.2))=_;rw[List.set_append_right _ _ (le_refl _),Nat.sub_self];rfl
 rw[e]at E';refine⟨O',E'.drop,le,?_⟩;let⟨v',e1,i1⟩:=E'.viewS.sh Y.length s.2 (by
  unfold shv;rw[List.map_append,getElem?_append_right (by rw[length_map];exact OF _),length_map,Nat.sub_self];rfl)
 rw[getElem?_append_right (by rw[hlen];exact OF _),hlen,Nat.sub_self]at e1;cases e1;exact i1
def  yp (i:Nat) (g:NZ):Cl:=λY=>(ownL Y i).bind λ_=>(g Y).bind λz=>(ownL z.2 i).bind λw=>(jp z.1.2).bind λes=>if w.2.length+es.length<big then !(.nx (z.2.set i (!(extC w.1 es,.lst (w.2++es)))))else none
def vh (i:Nat) (h:PEv X e g) (hN:X.N[i]?=!x) (hv:Vis X.env.scope x) (hd:(!7)=false) (hcd:(!12)=false) (hst:starEach [e] X.env=(false,eval e X.env)::starEach [] X.env) (hline:(apos.endLine==cpos.line)=true):PR X (.Expr (.Call (.Attribute (!18) "extend" apos) [e] [] cpos) pos) (yp i g):=λB O Y=>
 (eF (kW PySem.F.plainAttrs_list PySem.F.slot_list_extend PySem.F.type_list_extend qR (bT hN hv hd hcd) (bq (h B O Y).1 pa_nil hst) rfl (by rw[hst];rfl) hline hst rfl)).imp λEn σ H ⟨E,o,q,k⟩=>by
 let⟨⟨c0,ds0⟩,q1,q⟩:=OH q;let⟨⟨s,Y'⟩,q2,q⟩:=OH q;let⟨⟨c,ds⟩,q3,q⟩:=OH q;let⟨es,q4,q⟩:=OH q;let⟨hz,q⟩:=ar q;subst q;let⟨h0,hc0⟩:=bJ q1;let⟨h1,hc1⟩:=bJ q3;let⟨a,xs0,e1,r3,_⟩:=E.ownAt h0 hc0;refine⟨.ref a,e1,.inl ⟨rfl,_,SqL.of r3⟩,E,s,Y',q2,λv H1 O1 s1 E1=>?_⟩;let⟨O2,E2,le,is⟩:=E1.lastSh;let⟨m,zs,rfl,t,l⟩:=bS q4 is;let⟨a',xs,e2,r4,hl,O3,E3,s2⟩:=E2.extend h1 hc1 l;rw[e1]at e2;cases e2;exact⟨a,m,xs,zs,rfl,rfl,r4,msk_le.seq t,by rw[<-hl,<-l.len,f6];exact OC hz,k σ _ O3 ((s1.trans le).trans s2) E3⟩
section
variable {X:Cx} {e:Expr} {pos:Pos}
end
section
variable {X:Cx} {pos:Pos}
end
section
variable {X:Cx} {a b:Expr} {pos:Pos}
def  AM (K:Frag):R2:=λx y H Q=>∃a b ys,x=.ref a/\y=.ref b/\SqT K H a []/\SqT K H b ys/\Q (.ref b) H
def AN:OpR X (binaryOp .Add) (AM X.K):=by
 intro pins s σ H x y v u Q I rx ry h;let⟨a,b,ys,rfl,rfl,ha,hb,q⟩:=h;cases rx;cases ry;let⟨its,r1,p1,_⟩:=I.tuple ha;let⟨its2,r2,p2,_⟩:=I.tuple hb;have hn:=r1.nil_iff.mpr rfl;subst hn;let⟨⟨cls,dd,data,sl⟩,ho,hc,n,hd⟩:=id p1;let⟨⟨cls2,dd2,data2,sl2⟩,ho2,hc2,n2,hd2⟩:=id p2;subst hc hd hc2 hd2;exact concat_meets ⟨_,ho,rfl⟩ ⟨_,ho2,rfl⟩ noFill_tuple_add seq_tuple_add PySem.F.slot_tuple_add PySem.F.entry_tuple_add (PySem.F.args_tuple_add_2 _ _) (tuple_addW0 a b _ _ n n2 dd dd2 sl sl2 rfl) ⟨ho,ho2,.ref b,H,I,rfl,q⟩
def  rTT (K:Frag):R2:=λx y H Q=>Ff K x y H Q\/AM K x y H Q
def Kl:OpR X (binaryOp .Add) (rTT X.K):=λpins s σ H x y v u Q I rx ry h=>h.elim (CU pins s σ H x y v u Q I rx ry) (AN pins s σ H x y v u Q I rx ry)
def  MF:D->D->Oe
 |.tup a,.tup b=>if a.length+b.length<big then !(.tup (a++b))else none
 |_,_=>none
def MG {K}:R2D K (rTT K) MF:=λO H x y dx dy d Q hd ix iy e k=>by
 cases dx with
 |tup as=>
  cases dy with
  |tup bs=>
   let⟨hz,e⟩:=ar (e);subst e;let⟨p,us,rfl,t1,l1⟩:=ix;let⟨q,ws,rfl,t2,l2⟩:=iy;have hl1:=l1.len;have hl2:=l2.len;cases as with
   |nil=>
    have hu:=List.length_eq_zero_iff.mp (by rw[<-hl1];rfl);subst hu;exact .inr ⟨p,q,ws,rfl,rfl,msk_le.seqT t1,msk_le.seqT t2,k _ H (Same.refl _) ⟨q,ws,rfl,t2,l2⟩⟩
   |cons a as=>
    have hu:us≠[]:=λz=>by rw[z]at hl1;cases hl1
    refine .inl ⟨p,q,us,ws,rfl,rfl,msk_le.seqT t1,msk_le.seqT t2,hu,by rw[<-hl1,<-hl2];exact OC hz,λz=>?_,λz c hc=>?_⟩
    .subst z;have hb:=List.length_eq_zero_iff.mp (by rw[hl2];rfl);subst hb;rw[List.append_nil]at k;exact k _ H (Same.refl _) ⟨p,us,rfl,t1,l1⟩
    .have hO:=fH hd hc;have le:Same (msk O H) (msk O (upd H c (.tup (us++ws)))):=by rw[l8 hO];exact Same.new (by rw[aA hO];exact hc)
     exact k _ _ (Same.new hc) ⟨c,us++ws,rfl,.of (by rw[aA hO,ai]),IsL.mono le _ _ (l1.app l2)⟩
  |_=>cases e
 |_=>cases e
def  aE:D->D->Oe
 |.int i,.int j=>!(.int (i+j))
 |.tup a,.tup b=>if a.length+b.length<big then !(.tup (a++b))else none
 |_,_=>none
def Hs (ha:PP X a fa) (hb:PP X b fb):PP X (.BinOp a .Add b pos) (aa aE fa fb):=λO Y=>(Da ha hb O Y).by2 (pN Kl MG ha hb O Y) λσ H Q ⟨E,d,q,k⟩=>by
 let⟨x,e1,q⟩:=OH q;let⟨y,e2,q⟩:=OH q;have w1:∀g:D->D->Oe,aa g fa fb Y=g x y:=λg=>by show(fa Y).bind _=_;rw[e1];show(fb Y).bind _=_;rw[e2];rfl
 cases x<;>cases y<;>first
  |exact .inl ⟨E,d,by rw[w1];exact q,k⟩
  |exact .inr ⟨E,d,by rw[w1];exact q,k⟩
end
section
variable {X:Cx} {pins:N1} {σ:St} {H:Hp} {s:Shared}
def wL (I:Inv X pins σ H s) (hu:X.A.units+60<cLine) (l:IsL X.K H ds xs) (r:Vals xs its) (ok:okL ds=true) (hd:aQ ds<=50) (oe:okE d=true) (ix:Is X.K H d x) (rx:RelV x u):
  ∃e:Value->Bool,(∀y∈its,SeqAt.EqAt X.A.in1 s y u (e y))/\∀ (i:Nat) (d':D) (v:Value),ds[i]?=!d'->its[i]?=!v->e v=eqD d' d:=by
 classical
 have at_:∀ (i:Nat) (d':D) (v:Value),ds[i]?=!d'->its[i]?=!v->∃y,Is X.K H d' y/\RelV y v:=λi d' v h1 h2=>by
  let⟨y,e1,i1⟩:=l.get h1;let⟨w,e2,r2⟩:=r.get e1;rw[h2]at e2;cases e2;exact⟨y,i1,r2⟩
 have one:∀ (i j:Nat) (d1 d2:D) (v:Value),ds[i]?=!d1->ds[j]?=!d2->its[i]?=!v->its[j]?=!v->d1=d2:=λi j d1 d2 v h1 h2 h3 h4=>by
  let⟨y1,i1,r1⟩:=at_ i d1 v h1 h3;let⟨y2,i2,r2⟩:=at_ j d2 v h2 h4;cases r1.inj r2;exact Is.inj I d1 d2 y1 (eX ok h1) (eX ok h2) i1 i2
 have ev:∀ (i:Nat) (d':D) (v:Value),ds[i]?=!d'->its[i]?=!v->decide (∃ (j:Nat) (d2:D),ds[j]?=!d2/\its[j]?=!v/\eqD d2 d=true)=eqD d' d:=λi d' v h1 h2=>by
  rw[Bool.eq_iff_iff,decide_eq_true_iff];exact⟨λ⟨j,d2,a,b,c⟩=>one i j d' d2 v h1 a h2 b▸c,λc=>⟨i,d',h1,h2,c⟩⟩
 refine⟨λv=>decide (∃ (j:Nat) (d2:D),ds[j]?=!d2/\its[j]?=!v/\eqD d2 d=true),λy hy=>?_,ev⟩
 let⟨i,hi⟩:=List.mem_iff_getElem?.mp hy
 have hl:i<ds.length:=by rw[l.len,r.length];exact(On.mp hi).1
 have h1:=getElem?_eq_getElem hl
 let⟨z,iz,rz⟩:=at_ i _ y h1 hi
 show SeqAt.EqAt X.A.in1 s y u (decide _)
 rw[ev i _ y h1 hi]
 exact uL I 50 X.A.in1 _ d z x y u (Ov (jr h1) hd) (by rw[ic];omega) (eX ok h1) oe iz ix rz rx
def  inE (d e:D):Oe:=(jp e).bind λds=>if okE d&&okL ds&&decide (aQ ds<=50)then !(.bl (ds.any λc=>eqD c d))else none
def  Km (K:Frag):R2:=λx y H Q=>∃p xs ds d,y=.ref p/\SqL K H p xs/\IsL K H ds xs/\Is K H d x/\okE d=true/\okL ds=true/\aQ ds<=50/\Q (.bl (ds.any λc=>eqD c d)) H
def Ht (hu:X.A.units+60<cLine):OpR X (compareOp .In) (Km X.K):=by
 intro pins s σ H x y v u Q I rx ry h;let⟨p,xs,ds,d,rfl,hq,l,ix,od,ok,hd,q⟩:=h;cases ry;let⟨its,r,pl,hz⟩:=I.list hq;let⟨e,e1,e2⟩:=wL I hu l r ok hd od ix rx;refine SeqAt.in_listAt e pl.isList (λw hw=>e1 w (by simpa using hw)) ⟨.bl _,H,I,rfl,?_⟩;have:its.toArray.any e=ds.any λc=>eqD c d:=by
  have hl:ds.length=its.length:=by rw[l.len,r.length]
  rw[List.any_toArray,Bool.eq_iff_iff,List.any_eq_true,List.any_eq_true];constructor
  .rintro⟨y,hy,ey⟩;let⟨i,hi⟩:=List.mem_iff_getElem?.mp hy;have h1:i<ds.length:=by rw[hl];exact(On.mp hi).1
   exact⟨_,List.getElem_mem h1,(e2 i _ y (getElem?_eq_getElem h1) hi)▸ey⟩
  .rintro⟨c,hc,ec⟩;let⟨i,hi⟩:=List.mem_iff_getElem?.mp hc;have h1:i<its.length:=by rw[<-hl];exact(On.mp hi).1
   exact⟨_,List.getElem_mem h1,(e2 i c _ hi (getElem?_eq_getElem h1)).trans ec⟩
 rw[this];exact q
def Kn {K}:R2D K (Km K) inE:=λO H x y dx dy d Q hd ix iy e k=>by
 let⟨ds,q1,q2⟩:=OH e;let⟨h1,h2⟩:=ar q2;subst h2;rw[and_eq_true,and_eq_true]at h1;let⟨p,xs,rfl,t,il⟩:=bS q1 iy;exact⟨p,xs,ds,dx,rfl,msk_le.seq t,IsL.mono msk_le _ _ il,Is.mono msk_le _ _ ix,h1.1.1,h1.1.2,Oq h1.2,k _ H (Same.refl _) rfl⟩
def  Ko (K:Frag):V->List V->Hp->VK->Prop:=λx vs H Q=>∃ (l:Addr) (xs:List V) (ds:Oc) (d:D) (v:V) (j:Nat),x=.ref l/\vs=[v]/\SqL K H l xs/\IsL K H ds xs/\Is K H d v/\okE d=true/\okL ds=true/\aQ ds<=50/\ds.findIdx? (λc=>eqD c d)=!j/\Q (.int (j:Int)) H
def yq (hu:X.A.units+60<cLine):MtM X "list.index" (Ko X.K):=by
 intro pins s σ H x vs v us Q I rx rv h;let⟨l,xs,ds,d,y,j,rfl,rfl,hx,il,iy,od,ok,hd,hj,q⟩:=h;cases rx;let⟨u,rfl,ru⟩:=rv.one;let⟨its,r,pl,hz⟩:=I.list hx;let⟨e,e1,e2⟩:=wL I hu il r ok hd od iy ru;let⟨⟨c1,d1,t1,s1⟩,n1,eo,k1,_,w1⟩:=pl;subst k1 w1;let⟨hjl,hit,hno⟩:=List.findIdx?_eq_some_iff_getElem.mp hj;have hl:ds.length=its.length:=by rw[il.len,r.length]
 have get:∀i (hi:i<its.length),e its[i]=eqD (ds[i]'(!1)) d:=λi hi=>e2 i _ _ (getElem?_eq_getElem (!1)) (getElem?_eq_getElem hi);have hs:(j:Int)<2^63-1:=by
  have:sizeLine<2^62:=by decide
  have:=r.length;omega
 refine call_meets F.slot_list_index ⟨_,eo,rfl⟩ F.entry_list_index (F.args_list_index_2 _ _) (PySem.SeqAt.list_indexAt l its.toArray n1 d1 s1 u e j (by rw[size_toArray];omega) hs ?_ ?_) ⟨eo,λz hz'=>e1 z (by simpa using hz'),?_⟩
 .simp only[List.getElem_toArray];rw[get];exact hit
 .intro m hm hlt;have hm':m<its.length:=by simpa using hm
  simp only[List.getElem_toArray];rw[get];simpa using hno m hlt
 .exact⟨.int (j:Int),H,I.kept λb o ho=>ho,⟨_,rfl⟩,q⟩
def  yt (ds:Oc) (d:D):Option Nat:=if okE d&&okL ds&&decide (aQ ds<=50)then ds.findIdx? λc=>eqD c d else none
def  oM (fo fk:wp):wp:=λY=>(fo Y).bind λl=>(jp l).bind λds=>(fk Y).bind λy=>(yt ds y).bind λj=>!(.int (j:Int))
def yu (hu:X.A.units+60<cLine) (ho:PP X (!18) fo) (hk:PP X e fk) (hst:starEach [e] X.env=(false,eval e X.env)::starEach [] X.env) (hl:(ap.endLine==cp.line)=true):
  PP X (.Call (.Attribute (!18) "index" ap) [e] [] cp) (oM fo fk):=λO Y=>
 (kW PySem.F.plainAttrs_list PySem.F.slot_list_index PySem.F.type_list_index (yq hu) (ho O Y) (bq (hk O Y) pa_nil hst) rfl (by rw[hst];rfl) hl hst rfl).imp λσ H Q ⟨E,d,q,k⟩=>by
 let⟨l,q1,qa⟩:=OH q
 let⟨ds,q2,qb⟩:=OH qa
 let⟨y,q4,qd⟩:=OH qb
 let⟨j,q6,qf⟩:=OH qd
 cases qf
 let⟨h1,h2⟩:=(show(okE y&&okL ds&&decide (aQ ds<=50))=true/\ds.findIdx? (λc=>eqD c y)=some j by
  unfold yt at q6;split at q6
  .exact⟨by assumption,q6⟩
  .cases q6)
 rw[and_eq_true,and_eq_true]at h1
 refine⟨E,l,q1,λv H1 s1 i1=>?_⟩
 let⟨p,xs,rfl,t,il⟩:=bS q2 i1
 refine⟨.inl ⟨rfl,xs,msk_le.seq t⟩,E.grow s1,_,q4,λyv H2 s2 iy=>?_⟩
 exact⟨p,xs,ds,y,yv,j,rfl,rfl,s2.seq (msk_le.seq t),IsL.mono (msk_le.trans s2) _ _ il,Is.mono msk_le _ _ iy,h1.1.1,h1.1.2,Oq h1.2,h2,k _ H2 (s1.trans s2) rfl⟩
end
section
variable {X:Cx} {a:Expr} {p pc pos:Pos}
end
end L2
namespace PySem
section
variable {prog:Program} {w:World} {A:Around} {R:Result->Shared->Prop} {I S:Addr} {fp wr:List Addr} {n:Nat} {P:Nat->Value->Prop} {St:Nat->Heap->Prop} {bt:Nat->Nat->Bool} {h0:Heap}
def  lr (h0:Heap) (wr:List Addr) (S:Addr) (h:Heap):Prop:=∀b o,b ∉ wr->b≠S->h0.get? b=!o->h.get? b=!o
def  Hu (prog:Program) (w:World) (A:Around) (P:Nat->Value->Prop) (bt:Nat->Nat->Bool) (ok:Heap->Prop):Prop:=
 ∀i j x y (t:Shared) (Q:N4) (E:N4),P i x->P j y->ok t.heap->Q (.bool (bt i j)) t->wpAny (!6) A (richCompare .Gt x y) Q E t
def D2 (W:Walks prog w A.in1 I fp wr n P St) (hc:Hu prog w A.in1 P bt (lr h0 wr S)) (nS:S ∉ fp):
  ∀ (m i:Nat) (t:Shared) (x:Value) (z:Nat),n-(i+1)=m->i+1<=n->St (i+1) t.heap->P (argBest bt i) x->
  t.heap.get? S=some {cls:=.type "list",dict:=none,data:=.seq #[x,x] z,slots:=#[]}->lr h0 wr S t.heap->
  (∀y h' tk,P (argBest bt (n-1)) y->lr h0 wr S h'->R (.ok (.ret y)) {t with heap:=h',toks:=tk})->
  codeAny (!6) A (.builtin "max.loop" ⟨[.ref I,.none,.ref S],[]⟩) R t:=λm=>by
 have nW:S ∉ wr:=λq=>nS (W.sub _ q)
 induction m with
 |zero=>
  intro i t x z em le st px cs kp fin;have en:i+1=n:=by omega
  refine codeAny_builtin F.entry_max_loop ((Around.under_plainId F.plain_max_loop _).symm▸?_);refine Og (wpAny_seqItems cs rfl (Og (wpAny_tryCatch (W.done t _ _ (en▸st) λh' tk kk=>?_))));refine Og ?_;refine wpAny_updateSeq (kk S _ nW cs) rfl (Og (wpAny_letGo (Oi (fin x _ tk (by rw[<-en];exact px) λb o b1 b2 e=>?_))));exact(Heap.get?_update_other _ _ (Ne.symm b2)).trans (kk b o b1 (kp b o b1 b2 e))
 |succ m ih=>
  intro i t x z em le st px cs kp fin;have lt:i+1<n:=by omega
  refine codeAny_builtin F.entry_max_loop ((Around.under_plainId F.plain_max_loop _).symm▸?_);refine Og (wpAny_seqItems cs rfl (Og (wpAny_tryCatch (W.item (i+1) t _ _ lt st λy h' tk py st' kk=>?_))));have cs':=kk S _ nW cs;have kp':lr h0 wr S h':=λb o b1 b2 e=>kk b o b1 (kp b o b1 b2 e);show wpAny _ A.in1 (tryCatch (holding [y,y] (richCompare .Gt y x>>=_)) _>>=_) _ _ _;refine Og (wpAny_tryCatch (wpAny_holding (Og (hc (i+1) _ y x _ _ _ py px kp' ?_))));refine Og (wpAny_holding (wpAny_truthy_bool (Og (wpAny_letGo (Oi ?_)))));by_cases q:bt (i+1) (argBest bt i)=true
  .rw[q];refine Og ?_;refine wpAny_updateSeq cs' rfl (Og (wpAny_letGo ?_));refine Oi ⟨plainId_quiet F.plain_max_loop _,ih (i+1) _ y _ (!1) lt (W.frame _ _ _ st' λb hb o e=>?_) (by rw[argBest,if_pos q];exact py) (Heap.get?_update_self _ cs' rfl) (λb o b1 b2 e=>?_) λy' h'' tk'' p' k''=>fin y' h'' tk'' p' k''⟩
   .exact(Heap.get?_update_other _ _ (λz:S=b=>nS (z▸hb))).trans e
   .exact(Heap.get?_update_other _ _ (Ne.symm b2)).trans (kp' b o b1 b2 e)
  .rw[show bt (i+1) (argBest bt i)=false by simpa using q];refine Og (wpAny_letGo ?_);exact Oi ⟨plainId_quiet F.plain_max_loop _,ih (i+1) _ x z (!1) lt st' (by rw[argBest,if_neg q];exact px) cs' kp' λy' h'' tk'' p' k''=>fin y' h'' tk'' p' k''⟩
def AO (W:Walks prog w A.in1 I fp wr n P St) (hc:Hu prog w A.in1 P bt (lr h0 wr S)) (nS:S ∉ fp) (hn:0<n) (st:St 0 t.heap) (cs:t.heap.get? S=some {cls:=.type "list",dict:=none,data:=.seq #[] z,slots:=#[]}) (kp:lr h0 wr S t.heap) (fin:∀y h' tk,P (argBest bt (n-1)) y->lr h0 wr S h'->R (.ok (.ret y)) {t with heap:=h',toks:=tk}):
  codeAny (!6) A (.builtin "max.loop" ⟨[.ref I,.none,.ref S],[]⟩) R t:=by
 have nW:S ∉ wr:=λq=>nS (W.sub _ q)
 refine codeAny_builtin F.entry_max_loop ((Around.under_plainId F.plain_max_loop _).symm▸?_)
 refine Og (wpAny_seqItems cs rfl (Og (wpAny_tryCatch (W.item 0 t _ _ hn st λy h' tk py st' kk=>?_))))
 have cs':=kk S _ nW cs
 show wpAny _ A.in1 (updateSeq S (λ_=>#[y,y])>>=_) _ _ _
 refine Og ?_
 refine wpAny_updateSeq cs' rfl ?_
 refine Oi ⟨plainId_quiet F.plain_max_loop _,D2 W hc nS _ 0 _ y _ rfl hn (W.frame _ _ _ st' λb hb o e=>?_) py (Heap.get?_update_self _ cs' rfl) (λb o b1 b2 e=>?_) λy' h'' tk'' p' k''=>fin y' h'' tk'' p' k''⟩
 .exact(Heap.get?_update_other _ _ (λz:S=b=>nS (z▸hb))).trans e
 .exact(Heap.get?_update_other _ _ (Ne.symm b2)).trans (kk b o b1 (kp b o b1 b2 e))
end
section
variable {prog:Program} {w:World} {A:Around} {E:N4} {s:Shared}
def AQ (h:wpAny (!6) A.in1 (pyIter x) (λit t=>∃I fp wr n P St bt,it=.ref I/\Walks prog w A.in1 I fp wr n P St/\St 0 t.heap/\(∀b∈fp,b<t.heap.objs.size)/\0<n/\Hu prog w A.in1 P bt (lr t.heap wr t.heap.objs.size)/\
   ∀v h' tk,P (argBest bt (n-1)) v->(∀b o,b ∉ wr->t.heap.get? b=!o->h'.get? b=!o)->Q v {t with heap:=h',toks:=tk}) E s):
  wpAny (!6) A (call (.builtin "max") [x]) Q E s:=by
 refine call_function_tree F.kind_max F.plain_max F.entry_max (F.args_max1 _) ?_
 refine Og (Oy (show Builtin.Builtins.bindParams "max" ["key","default"] 0 ⟨[],[]⟩=pure [none,none]from rfl) (Og (Oi (Og (OG h (λit t g=>?_) λ_ _ e=>e)))))
 let⟨I,fp,wr,n,P,St,bt,rfl,W,st,lo,hn,hc,fin⟩:=g
 have nS:t.heap.objs.size ∉ fp:=λq=>OB _ (lo _ q)
 refine Og (wpAny_newObj_type ?_)
 refine Oi ⟨plainId_quiet F.plain_max_loop _,AO W hc nS hn (W.frame _ _ _ st λb _ o e=>Oh _ e) (Ol _ rfl) (λb o _ _ e=>Oh _ e) λv h' tk p kk=>?_⟩
 exact fin v h' tk p λb o b1 e=>kk b o b1 (Ow (Oj e)) e
end
end PySem
namespace L2
open PySem PySem.Spec PyProof.Rows
section
variable {X:Cx}
def  mxB (nss:List (N9)) (i j:Nat):Bool:=HT.lexLt (nss.getD j []) (nss.getD i [])
def  Kp (K:Frag):List V->Hp->VK->Prop:=λxs H Q=>∃l vs nss,xs=[.ref l]/\SqL K H l vs/\vs.length=nss.length/\nss≠[]/\(∀i v,vs[i]?=!v->∃a,v=.ref a/\SqT K H a ((nss.getD i []).map V.int))/\
 ∀v,vs[argBest (mxB nss) (nss.length-1)]?=!v->Q v H
def wM (r:Vals xs us):∀ {i:Nat} {u:Value},us[i]?=!u->∃x,xs[i]?=!x/\RelV x u:=by
 induction r with
 |nil=>intro i u h;simp at h
 |cons h _ ih=>
  intro i u e;cases i with
  |zero=>simp at e;subst e;exact⟨_,rfl,h⟩
  |succ i=>exact ih (by simpa using e)
def call_maxT (hc:X.calm=true) (hu:X.A.units+1<cLine):fG X (.builtin "max") (Kp X.K):=by
 intro pins s σ H xs us Q I r h;let⟨l,vs,nss,rfl,hl,hlen,hn,hat,q⟩:=h;let⟨u,rfl,ru⟩:=gq r;cases ru;let⟨its,rv,pl,hz⟩:=I.list hl;have len:its.length=nss.length:=by rw[<-rv.length,hlen]
 have hlt:l<s.heap.objs.size:=by let⟨_,e,_⟩:=pl.isList;exact Oj e
 have hp:=List.length_pos_iff.mpr hn;have tup:∀i u,its[i]?=!u->∃a its',u=.ref a/\IsTup s.heap a its'/\IntsAre its'.toList (nss.getD i []):=λi u e=>by
  let⟨x,e1,rx⟩:=wM rv e;let⟨a,rfl,ht⟩:=hat i x e1;cases rx;let⟨its',r1,p1,_⟩:=I.tuple ht;exact⟨a,its'.toArray,rfl,p1,dQ r1⟩
 refine AQ (wpAny_pyIter_list pl.isList ?_);refine⟨_,_,_,_,_,_,mxB nss,rfl,Walks.list (A:=X.A.in1) (I.ok.hd hc) s.heap.objs.size l (Ow hlt) its.toArray,⟨⟨_,Ol _ rfl,rfl,rfl⟩,pl.isList.push _⟩,λb hb=>?_,by rw[size_toArray,len];exact hp,?_,λv h' tk hP kp=>?_⟩
 .rw[Heap.size_push];rcases mem_cons.mp hb with rfl|hb
  .exact Nat.lt_succ_self _
  .rw[mem_singleton.mp hb];exact Nat.lt_succ_of_lt hlt
 .intro i j x y t Q' E' hx hy ok fin;rw[List.getElem?_toArray]at hx hy;let⟨a,ia,rfl,⟨oa,ha,ra⟩,za⟩:=tup i x hx;let⟨b,ib,rfl,⟨ob,hb,rb⟩,zb⟩:=tup j y hy;have up:∀c o,s.heap.get? c=!o->t.heap.get? c=!o:=λc o e=>by
   have cl:=Oj e;refine ok c o (λz=>?_) (λz=>?_) (Oh _ e)
   .rw[mem_singleton.mp z]at cl;exact OB _ cl
   .have z2:c=s.heap.objs.size+1:=z.trans (Heap.size_push ..);rw[z2]at cl;exact absurd cl (Nat.not_lt.mpr (Nat.le_succ _))
  exact HT.gt_tupInts ⟨oa,up _ _ ha,ra⟩ ⟨ob,up _ _ hb,rb⟩ za zb (by show X.A.in1.units<cLine;exact Ou (OF _) hu) fin
 .rw[List.getElem?_toArray,size_toArray,len]at hP;let⟨x,e1,rx⟩:=wM rv hP;refine⟨x,H,I.kept λb o e=>kp b o (λz=>?_) (Oh _ e),rx,q x e1⟩;have cl:=Oj e;rw[mem_singleton.mp z]at cl;exact OB _ cl
def  Hv:D->Option (N9)
 |.tup ds=>bb ds
 |_=>none
def  sZ:Oc->Option (List (N9))
 |[]=>![]
 |d::ds=>(Hv d).bind λns=>(sZ ds).bind λr=>!(ns::r)
def s0:∀ {ds:Oc} {nss:List (N9)},sZ ds=!nss->ds.length=nss.length/\∀i d,ds[i]?=!d->Hv d=!(nss.getD i [])
 |[],nss,h=>by cases h;exact⟨rfl,λi d e=>by simp at e⟩
 |d0::ds,nss,h=>by
  let⟨ns,e1,h⟩:=OH h;let⟨r,e2,h⟩:=OH h;cases h;let⟨l,at_⟩:=s0 e2;refine⟨by rw[length_cons,length_cons,l],λi d e=>?_⟩;cases i with
  |zero=>simp at e;subst e;exact e1
  |succ i=>exact at_ i d (by simpa using e)
def  lu:Oc->Oe
 |[.lst ds]=>(sZ ds).bind λnss=>if nss.isEmpty then none else ds[argBest (mxB nss) (nss.length-1)]?
 |_=>none
def rn_maxT:RnD X.K (Kp X.K) lu:=λO H xs ds d Q hd l e k=>by
 unfold lu at e;split at e
 .let⟨nss,e1,e2⟩:=OH e;let⟨u,rfl,p,ys,rfl,hq,il⟩:=is1 l;split at e2
  .cases e2
  .rename_i hn;let⟨ll,at_⟩:=s0 e1;refine⟨p,ys,nss,rfl,msk_le.seq hq,by rw[<-il.len,ll],λz=>hn (by rw[z];rfl),λi v hv=>?_,λv hv=>?_⟩
   .let⟨d',g1,g2⟩:=il.get' hv;have g3:=at_ i d' g1;cases d' with
    |tup ds'=>
     let⟨a,xs',rfl,t1,l1⟩:=g2;have:=bI (g3) l1;subst this;exact⟨a,rfl,msk_le.seqT t1⟩
    |_=>cases g3
   .let⟨v',g1,g2⟩:=il.get e2;rw[hv]at g1;cases g1;exact k _ H (Same.refl _) g2
 .cases e
end
structure Gb where
 fn:Str->Option (Nat×(ad))
 cn:Str->Oe
 no:Str->Bool
 fl:Str->Str->Bool
 mt:Str->MT
 ini:Str->Option (Nat×(Oc->Option (List (Str×D))))
structure Sn where
 N:N8
 nm:List (Str×NameKind)
 k:Nat
 G:Gb
structure GbOk (P:Program) (w:World) (K:Frag) (mg:Str->N6) (base:Heap) (G:Gb):Prop where
 fn:∀x k f,G.fn x=!(k,f)->Df P w K mg base x k f
 cn:∀x d,G.cn x=!d->Cn K mg x d
 no:∀x,G.no x=true->mg x=none
 fl:∀C m Ca,G.fl C m=true->nsIn K mainGlobals C=!(!(.ref Ca))->Cls K Ca/\NoAttr K Ca m
 mt:∀m C k f,G.mt m C=!(k,f)->Mf P w K mg base C m k f
 ini:∀C k g,G.ini C=!(k,g)->Mkf P w K mg base C k g
structure SnOk (X:Cx) (S:Sn):Prop where
 g:GbOk X.prog X.w X.K X.mg X.base S.G
 N:X.N=S.N
 nd:S.N.Nodup
 calm:X.calm=true
 room:Room S.k X.A
 loc:∀x,S.nm.lookup x=some .local->X.env.scope.names.lookup x=some .local
 cel:∀x,S.nm.lookup x=some .cell->X.env.scope.names.lookup x=some .cell
 fre:∀x,S.nm.lookup x=some .free->X.env.scope.names.lookup x=some .cell\/X.env.scope.names.lookup x=some .free
 glo:∀x,S.nm.lookup x=some .globalImplicit->X.env.kindOf x=some .globalImplicit
def  bB (S:Sn) (x:Str):Option Nat:=if eY x&&wz (S.nm.lookup x)then qL S.N x else none
def  glS (S:Sn) (x:Str):Bool:=eY x&&decide (S.nm.lookup x=some .globalImplicit)
def  nmF (S:Sn) (x:Str):wp:=match bB S x with
 |some i=>λY=>bO Y i
 |none=>if glS S x then(match S.G.cn x with
  |some d=>λ_=>!d
  |none=>if S.G.no x then(match qM x with|some n=>λ_=>!(.ty n)|none=>λ_=>none)elseλ_=>none)elseλ_=>none
section
variable {X:Cx} {S:Sn} {pos:Pos}
def pp_no:PP X e (λ_=>none):=λO Y=>(qK O Y).1
def SnOk.vis (o:SnOk X S) (h:wz (S.nm.lookup x)=true):Vis X.env.scope x:=by
 cases e:S.nm.lookup x with
 |none=>rw[e]at h;cases h
 |some k=>
  rw[e]at h;cases k with
  |«local»=>exact .inl (o.loc x e)
  |cell=>exact .inr (.inl (o.cel x e))
  |free=>
   rcases o.fre x e with q|q
   .exact .inr (.inl q)
   .exact .inr (.inr q)
  |globalExplicit=>cases h
  |globalImplicit=>cases h
def bc (o:SnOk X S) (h:bB S x=!i):eY x=true/\Vis X.env.scope x/\X.N[i]?=!x/\wz (S.nm.lookup x)=true:=by
 unfold bB at h;split at h
 .rename_i c;rw[and_eq_true]at c;exact⟨c.1,o.vis c.2,by rw[o.N];exact fL h,c.2⟩
 .cases h
def aK (o:SnOk X S) (h:glS S x=true):eY x=true/\Gl X x:=by
 unfold glS at h;rw[and_eq_true]at h;exact⟨h.1,o.glo x (Oq h.2)⟩
def re (o:SnOk X S) (x:Str):PP X (.Name x pos) (nmF S x):=by
 unfold nmF;split
 .rename_i i e;let⟨h1,h2,h3,_⟩:=bc o e;let⟨a,b,c⟩:=cH h1;exact mL i h3 h2 a b
 .split
  .rename_i e;let⟨h1,h2⟩:=aK o e;let⟨a,b,c⟩:=cH h1;split
   .rename_i d hd;exact zP (o.g.cn x d hd) h2 a
   .split
    .rename_i hn;split
     .rename_i n hb;exact JG h2 (o.g.no x hn) (uW hb) c a
     .exact pp_no
    .exact pp_no
  .exact pp_no
end
noncomputable def  ax:Expr->Bool
 |.Starred _ _=>false
 |_=>true
def star1 (h:ax e=true):starEach (e::es) env=(false,eval e env)::starEach es env:=by
 cases e<;>first|rfl|cases h
def AR:∀ {es:Od},es.all ax=true->(backTo pos (starEach es env)).any (·.1)=false
 |[],_=>rfl
 |e::es,h=>by
  rw[List.all_cons,and_eq_true]at h;rw[star1 h.1];show(false||(backTo pos (starEach es env)).any (·.1))=false;rw[AR h.2];rfl
def  MH:Operator->Option (D->D->Oe)
 |.Add=>!aE
 |.Sub=>!bU
 |.Mult=>!az
 |.FloorDiv=>!bw
 |.Mod=>!aP
 |_=>none
def  Kq (op:Operator) (fa fb:wp):wp:=match MH op with
 |some g=>aa g fa fb
 |none=>λ_=>none
noncomputable def  gL:Expr->Bool
 |.Set _ _ _=>false
 |_=>true
def noSet_mark (h:gL b=true):behindInMarks op b=false:=by
 cases b<;>first|rfl|cases h
def f8 (h:gL iter=true):∀x,foldedSetIterable iter env x=pure x:=by
 intro x;cases iter<;>first|rfl|cases h
def  cmpG:CmpOp->Option (D->D->Oe)
 |.Lt=>!ltD
 |.LtE=>!leD
 |.Gt=>!gtD
 |.Eq=>!(aD false)
 |.NotEq=>!(aD true)
 |.In=>!inD
 |.NotIn=>!uO
 |.Is=>!(iE false)
 |_=>none
def  yx (op:CmpOp) (b:Expr) (fa fb:wp):wp:=match cmpG op with
 |some g=>if gL b then aa g fa fb elseλ_=>none
 |none=>λ_=>none
section
variable {X:Cx} {S:Sn} {a b c:Expr} {pos:Pos}
def Kr (op:Operator) (ha:PP X a fa) (hb:PP X b fb):PP X (.BinOp a op b pos) (Kq op fa fb):=by
 cases op<;>first
  |exact Hs ha hb
  |exact Gm ha hb
  |exact Gn ha hb
  |exact Go ha hb
  |exact Gp ha hb
  |exact pp_no
def Ks (o:SnOk X S) (op:CmpOp) (ha:PP X a fa) (hb:PP X b fb):PP X (.Compare a [op] [b] pos) (yx op b fa fb):=by
 unfold yx;cases op<;>dsimp only[cmpG]<;>(try split)<;>first
  |exact pp_no
  |exact JP (Ou (Nat.le_add_right _ _) (room60 o.room)) ha hb
  |exact JQ ha hb
  |exact JR (Ou (Nat.le_add_right _ _) (room60 o.room)) ha hb
  |exact JY o.room ha hb
  |exact JZ o.room ha hb
  |(rename_i h;exact pp_cmp op_in_seq r_in ha hb (noSet_mark h))
  |(rename_i h;exact pp_cmp op_notIn_seq r_notIn ha hb (noSet_mark h))
  |(rename_i h;exact pp_cmp op_isN r_isN ha hb (noSet_mark h))
def Hw (o:SnOk X S) (op:CmpOp) (ha:PP X a fa) (hb:PP X b fb):PQ X (.Compare a [op] [b] pos) (ag (yx op b fa fb)):=by
 have no:PQ X (.Compare a [op] [b] pos) (ag λ_=>none):=λO Y pins s σ H Q I ⟨_,_,q,_⟩=>by cases q
 unfold yx;cases op<;>dsimp only[cmpG]<;>(try split)<;>first
  |exact no
  |exact JS (Ou (Nat.le_add_right _ _) (room60 o.room)) ha hb
  |exact JT ha hb
  |exact JU (Ou (Nat.le_add_right _ _) (room60 o.room)) ha hb
  |exact J0 o.room ha hb
  |exact J2 o.room ha hb
  |(rename_i h;exact pq_cmp op_in_seq r_in ha hb (noSet_mark h))
  |(rename_i h;exact pq_cmp op_notIn_seq r_notIn ha hb (noSet_mark h))
  |(rename_i h;exact pq_cmp op_isN r_isN ha hb (noSet_mark h))
end
def  AS (x:Str):Option (Oc->Oe):=if x=("len":Str)then !dg else if x=("isinstance":Str)then !dD else if x=("all":Str)then !mO else if x=("tuple":Str)then !dh else if x=("max":Str)then !lu else if x=("min":Str)then !Dn else none
def  AT (S:Sn) (x:Str):Oc->Oe:=if glS S x then(match S.G.fn x with
 |some (k,g)=>if k<=S.k thenλds=>valO (g ds)elseλ_=>none
 |none=>match S.G.ini x with
  |some (k,g)=>if k+1<=S.k thenλds=>DG x (g ds)elseλ_=>none
  |none=>if S.G.no x then(match AS x with|some g=>g|none=>λ_=>none)elseλ_=>none)elseλ_=>none
def  AU (S:Sn) (x:Str):Oc->Oe:=if glS S x then(match S.G.fn x with
 |some (k,g)=>if k<=S.k thenλds=>deepO (g ds)elseλ_=>none
 |none=>λ_=>none)elseλ_=>none
section
variable {X:Cx} {S:Sn} {e:Expr} {es:Od} {p pos:Pos}
def wN {α β:Type} (o:Option α):(o.bind λ_=>(none:Option β))=none:=by cases o<;>rfl
def dU {fa:dl}:PP X e (λY=>(fa Y).bind λ_=>none):=λO Y pins s σ H Q I ⟨_,_,q,_⟩=>by dsimp only at q;rw[wN]at q;cases q
def k_call (o:SnOk X S) (x:Str) (ha:PX X (e::es) fa) (hst:(e::es).all ax=true):PP X (!17) (λY=>(fa Y).bind (AT S x)):=by
 rw[List.all_cons,and_eq_true]at hst;have h1:starEach (e::es) X.env=(false,eval e X.env)::starEach es X.env:=star1 hst.1;have h2:∀pos,(!15).any (·.1)=false:=λpos=>AR hst.2;unfold AT;split
 .rename_i hg;let⟨ok,gl⟩:=aK o hg;let⟨n1,n2,n3⟩:=cH ok;split
  .rename_i k g hf;split
   .rename_i hk;exact DD (o.g.fn x k g hf) (o.room.mono hk) gl ha n1 h1 (h2 _)
   .exact dU
  .split
   .rename_i k g hf;split
    .rename_i hk;exact DH (o.g.ini x k g hf) (o.room.mono hk) gl ha n1 h1 (h2 _)
    .exact dU
   .split
    .rename_i hn;have hm:=o.g.no x hn;split
     .rename_i g hb;unfold AS at hb;split at hb
      .rename_i q;cases hb;subst q;exact pp_callB call_len_seq rn_len gl hm PySem.boot_len ha n3 n1 h1 (h2 _)
      .split at hb
       .rename_i q;cases hb;subst q;exact pp_callB call_isi rn_isi gl hm (!19) ha n3 n1 h1 (h2 _)
       .split at hb
        .rename_i q;cases hb;subst q;exact pp_callB (call_all o.calm) rn_all gl hm (!19) ha n3 n1 h1 (h2 _)
        .split at hb
         .rename_i q;cases hb;subst q;exact pp_callTy call_tuple_of rn_tuple gl hm (!19) ha n3 n1 h1 (h2 _)
         .split at hb
          .rename_i q;cases hb;subst q;exact pp_callB (call_maxT o.calm (Ou (Nat.add_le_add_left (!5) _) (room60 o.room))) rn_maxT gl hm b_max ha n3 n1 h1 (h2 _)
          .split at hb
           .rename_i q;cases hb;subst q;exact pp_callB (call_min2 o.calm) rn_min gl hm b_min ha n3 n1 h1 (h2 _)
           .cases hb
     .exact dU
    .exact dU
 .exact dU
def k_callR (o:SnOk X S) (x:Str) (ha:PX X (e::es) fa) (hst:(e::es).all ax=true):PFr X (!17) (λY=>(fa Y).bind (AU S x)):=by
 rw[List.all_cons,and_eq_true]at hst;have h1:starEach (e::es) X.env=(false,eval e X.env)::starEach es X.env:=star1 hst.1;have h2:∀pos,(!15).any (·.1)=false:=λpos=>AR hst.2;have no:PFr X (!17) (λY=>(fa Y).bind λ_=>none):=λY=>by dsimp only;rw[wN];exact sN Y
 unfold AU;split
 .rename_i hg;let⟨ok,gl⟩:=aK o hg;let⟨n1,n2,n3⟩:=cH ok;split
  .rename_i k g hf;split
   .rename_i hk;exact DE (o.g.fn x k g hf) (o.room.mono hk) gl ha n1 h1 (h2 _)
   .exact no
  .exact no
 .exact no
end
def tj (e a:Expr) (f:Str) (p:Pos) (l:Nat) (env:Env):swapsWith e (!(.Attribute a f p)) l env=pure false:=by
 cases e<;>rfl
def tm {K}:∀ {fd:List (Str×D)} {fs:List (Str×V)},fs.map (·.1)=fd.map (·.1)->IsL K M (fd.map (·.2)) (fs.map (·.2))->fd.lookup h=!d->∃v,fs.lookup h=!v/\Is K M d v
 |[],_,_,_,q=>by cases q
 |_::_,[],e,_,_=>by simp at e
 |(g,c)::fd,(g',u)::fs,e,⟨x,r,z,i,l⟩,q=>by
  have e1:g'=g:=by simp at e;exact e.1
  have e2:fs.map (·.1)=fd.map (·.1):=by simp at e;simpa using e.2
  subst e1;have z':u::fs.map (·.2)=x::r:=z;cases z';rw[List.lookup_cons]at q;cases hb:h==g' with
  |true=>
   rw[hb]at q;cases q;exact⟨u,by rw[List.lookup_cons,hb],i⟩
  |false=>
   rw[hb]at q;let⟨v,h1,h2⟩:=tm e2 l q;exact⟨v,by rw[List.lookup_cons,hb];exact h1,h2⟩
def  AV (x:Addr) (i:Nat) (g h:Str) (ff:ad) (G:InF):InF:=λY fs=>match eB Y i with
 |some (.sh,.adr a)=>if a=x/\fs.length<900 then((fs.lookup h).bind λd=>(ff [d]).bind λs=>G Y (mX g s.2 fs))else none
 |_=>none
section
variable {X:Cx} {Ca x:Addr} {rest:List Stmt} {pos:Pos}
def D3 (i:Nat) (F:Df X.prog X.w X.K X.mg X.base fn k ff) (hr:Room k X.A) (hg:Gl X fn) (hdb:(fn==("__debug__":Str))=false) (h2:PIn X Ca x rest G) (hN:X.N[i]?=!self) (hvis:Vis X.env.scope self) (hd:(self==("__debug__":Str))=false) (hcd:(self==("__classdict__":Str))=false) (c:Cls X.K Ca) (na:NoAttr X.K Ca g) (nb:NoAttr X.K Ca h):PIn X Ca x (.Assign [.Attribute (.Name self px) g pos'] (.Call (.Name fn p) [.Attribute (.Name self px2) h apos] [] cpos) pos::rest) (AV x i g h ff G):=λB O Y dx fd=>by
 let⟨fa,fdt,ps,hm,hk,hb,Gf⟩:=F.ex;refine(jh (zk (bT hN hvis hd hcd) (qy Gf hr hg hm hk hb .nil sx (bq (zj (bT hN hvis hd hcd) rfl) pa_nil) hdb rfl rfl) (tj _ _ _ _ _ _)) (PSs.ex λz:Bs×(Oa)×Ev×List _=>h2 z.1 z.2.1 z.2.2.1 dx z.2.2.2)).imp λEn σ H ⟨E,hx,⟨fs,a1,a2,a3⟩,fd',q,k⟩=>?_;have q':(match eB Y i with|some (.sh,.adr a)=>if a=x/\fd.length<900 then((fd.lookup h).bind λd=>(ff [d]).bind λs=>G Y _)else none|_=>none)=!fd':=q;split at q'
 .rename_i a ha;split at q'
  .rename_i hc;let⟨rfl,hl⟩:=hc;let⟨d,q1,q'⟩:=OH q';let⟨s,q2,q'⟩:=OH q';let⟨v,hv,iv⟩:=tm a2 a3 q1;let⟨F1,f1,_⟩:=E.fp;let⟨w,ew,ow⟩:=f1 i _ (bY ha);cases(ow.2);refine⟨.ref a,ew,a,Ca,dx,fs,v,rfl,E.same a _ a1,c,nb,hv,?_⟩;refine⟨O,[d],s,E.lis,⟨v,[],rfl,iv,rfl⟩,q2,λy H1 r=>?_⟩;let⟨s1,iy⟩:=r.is E.lis;have E1:=E.grow s1;have hlen:fs.length=fd.length:=by have:=congrArg List.length a2;simpa using this
   refine⟨.ref a,ew,a,Ca,dx,fs,rfl,E1.same a _ a1,c,na,by omega,?_⟩;let⟨E3,me⟩:=E1.store hx a1;let⟨b1,b2⟩:=qO iy a2 (IsL.mono s1.msk _ _ a3);refine⟨⟨⟨upd B.H a (.ins Ca dx _),B.O⟩,O,Y,mX g s.2 fd⟩,E3,hx,⟨_,ai,b1,by rw[me];exact b2⟩,fd',q',λσ' H' O' fs' k1 k2 k3 k4 k5=>k σ' H' O' fs' (λb o hb h=>k1 b o hb (by show upd B.H a _ b=!o;rw[ae hb];exact h)) k2 k3 k4 k5⟩
  .cases q'
 .cases q'
end
noncomputable def  vi (N:N8) (nm:List (Str×NameKind)):N7:=(List.range N.length).filter λi=>match N[i]? with|some x=>decide (nm.lookup x=some .local)|none=>false
def tq (h:N[i]?=!x) (h2:nm.lookup x=some .local):i∈vi N nm:=by grind [vi]
def  AW (S:Sn) (x:Str):Option Nat:=if S.nm.lookup x=some .local then qL S.N x else none
mutual
noncomputable def  tgV (S:Sn):Nat->Expr->D->Vv->Option Vv
 |0=>λ_ _ _=>none
 |n+1=>λe=>match e with
  |.Name x _=>(match AW S x with|some i=>gNm i|none=>λ_ _=>none)
  |.Tuple ts _ _=>if ts.all ax then gTp ts.length (D4 S n ts)elseλ_ _=>none
  |_=>λ_ _=>none
noncomputable def  D4 (S:Sn):Nat->Od->Oc->Vv->Option Vv
 |0=>λ_ _ _=>none
 |n+1=>λes=>match es with
  |[]=>eI
  |t::ts=>if ax t then aI (tgV S n t) (D4 S n ts)elseλ_ _=>none
end
def  rg (S:Sn) (x:Str):Option Nat:=if S.nm.lookup x=some .local\/S.nm.lookup x=some .cell then qL S.N x else none
mutual
noncomputable def  tgE (S:Sn):Nat->Expr->D->Ev->Option Ev
 |0=>λ_ _ _=>none
 |n+1=>λe=>match e with
  |.Name x _=>(match rg S x with|some i=>eNm i|none=>λ_ _=>none)
  |.Tuple ts _ _=>if ts.all ax then eTp ts.length (D5 S n ts)elseλ_ _=>none
  |_=>λ_ _=>none
noncomputable def  D5 (S:Sn):Nat->Od->Oc->Ev->Option Ev
 |0=>λ_ _ _=>none
 |n+1=>λes=>match es with
  |[]=>gJ
  |t::ts=>if ax t then aL (tgE S n t) (D5 S n ts)elseλ_ _=>none
end
section
variable {X:Cx} {S:Sn}
def asg1 (h:ax t=true):(assignEach (t::ts) env).map (·.2)=assign t env::(assignEach ts env).map (·.2):=by
 cases t<;>first|rfl|cases h
def asgLen:∀ {ts:Od},(assignEach ts env).length=ts.length
 |[]=>rfl
 |t::ts=>by cases t<;>exact congrArg (·+1) (asgLen (ts:=ts))
def AX:∀ {ts:Od},ts.all ax=true->(assignEach ts env).findIdx? (·.1)=none
 |[],_=>rfl
 |t::ts,h=>by
  rw[List.all_cons,and_eq_true]at h;have ih:=AX (env:=env) h.2;have:assignEach (t::ts) env=(false,assign t env)::assignEach ts env:=by
   have h1:=h.1;cases t<;>first|rfl|cases h1
  rw[this,List.findIdx?_cons];simp[ih]
def wO:PGD X ks e (λ_ _=>none):=λO Y d pins s σ H v u Q I r ⟨_,_,_,q,_⟩=>by cases q
def AY:xU X ks e (λ_ _=>none):=λO Y d pins s σ H v u Q I r ⟨_,_,_,q,_⟩=>by cases q
def wP:PGE X e (λ_ _=>none):=λB O Y d pins s σ H v u Q I r ⟨_,_,_,q,_⟩=>by cases q
def AZ:xZ X e (λ_ _=>none):=λB O Y d pins s σ H v u Q I r ⟨_,_,_,q,_⟩=>by cases q
def vj (h:AW S x=!i):S.nm.lookup x=some .local/\S.N[i]?=!x:=by
 unfold AW at h;split at h
 .exact⟨by assumption,fL h⟩
 .cases h
def tu (h:rg S x=!i):(S.nm.lookup x=some .local\/S.nm.lookup x=some .cell)/\S.N[i]?=!x:=by
 unfold rg at h;split at h
 .exact⟨by assumption,fL h⟩
 .cases h
def Fq (o:SnOk X S):∀n,(∀e,PGD X (vi S.N S.nm) e (tgV S n e))/\∀es,xU X (vi S.N S.nm) es (D4 S n es):=by
 intro n;induction n with
 |zero=>exact⟨λe=>wO,λes=>AY⟩
 |succ n ih=>
  refine⟨λe=>?_,λes=>?_⟩
  .unfold tgV;split
   .split
    .rename_i i hi;let⟨h1,h2⟩:=vj hi;exact Di (by rw[o.N];exact o.nd) (by rw[o.N];exact h2) (.inl (o.loc _ h1)) (tq h2 h1) (.inr (o.loc _ h1))
    .exact wO
   .split
    .rename_i h;exact GC o.calm (ih.2 _) asgLen (AX h)
    .exact wO
   .exact wO
  .unfold D4;split
   .exact Dj
   .split
    .rename_i h;exact gsd_cons (ih.1 _) (ih.2 _) (asg1 h)
    .exact AY
def wQ (o:SnOk X S) (hf:∀x,X.fn x=true):∀n,(∀e,PGE X e (tgE S n e))/\∀es,xZ X es (D5 S n es):=by
 intro n;induction n with
 |zero=>exact⟨λe=>wP,λes=>AZ⟩
 |succ n ih=>
  refine⟨λe=>?_,λes=>?_⟩
  .unfold tgE;split
   .split
    .rename_i i hi;let⟨h1,h2⟩:=tu hi;have hl:Loc X.env.scope _:=h1.elim (λh=>.inl (o.loc _ h)) (λh=>.inr (o.cel _ h));exact Dx (by rw[o.N];exact o.nd) (by rw[o.N];exact h2) hl (.inl (hf _))
    .exact wP
   .split
    .rename_i h;exact GO o.calm (ih.2 _) asgLen (AX h)
    .exact wP
   .exact wP
  .unfold D5;split
   .exact Dy
   .split
    .rename_i h;exact gse_cons (ih.1 _) (ih.2 _) (asg1 h)
    .exact AZ
noncomputable def  jz (S:Sn) (sc:Scope):Bool:=decide (sc.kind=.function)&&sc.names.all λy=>not (decide (y.2=.cell))&&(not (decide (y.2=.local))||decide (sc.names.lookup y.1=some .local))&&
 (not (decide (y.2=.free))||decide (S.nm.lookup y.1=some .cell)||decide (S.nm.lookup y.1=some .free))
def vk (o:SnOk X S) (h:jz S sc=true):CSc X sc (vi S.N sc.names):=by
 unfold jz at h;rw[and_eq_true]at h;have hk:=Oq h.1;have ha:=List.all_eq_true.mp h.2;refine⟨hk,λy hy z=>?_,λy hy z=>?_,λy hy z=>?_,λi x hx hl=>tq (by rw[<-o.N];exact hx) hl⟩
 .have:=ha y hy;simp[z]at this
 .have:=ha y hy;simp[z]at this;exact this
 .have:=ha y hy;simp[z]at this;rcases this with q|q
  .exact .inl (o.cel _ q)
  .exact o.fre _ q
def lx {f:Str → NameKind → NameKind}:∀ {l:List (Str × NameKind)},(l.map fun y=>(y.1,f y.1 y.2)).lookup x = (l.lookup x).map (f x)
  | []=>rfl
  | (n,k) :: l=>by
    rw [List.map_cons,List.lookup_cons,List.lookup_cons]
    cases h:x == n with
    | true => have : x = n := by simpa using h
              subst this; rfl
    | false=>exact lx
def f9:(relabel sc env).names.lookup x=(sc.names.lookup x).map λk=>if(k==NameKind.free&&env.scope.kind==.function&&env.kindOf x==some .cell)then NameKind.cell else k:=by
 have e:(relabel sc env).names=sc.names.map λy=>(y.1,if(y.2==NameKind.free&&env.scope.kind==ScopeKind.function&&env.kindOf y.1==!NameKind.cell)then NameKind.cell else y.2):=by
  apply List.map_congr_left;rintro⟨n,k⟩ _;dsimp only;split<;>rfl
 rw[e];exact lx (f:=λn k=>if(k==NameKind.free&&env.scope.kind==ScopeKind.function&&env.kindOf n==!NameKind.cell)then NameKind.cell else k)
def tw (o:SnOk X S) {sc:Scope} (h:jz S sc=true) (C:Addr) (s:Shared) (H:Hp) (fp:List Addr):SnOk (cxC X sc C s H fp) {S with nm:=sc.names} where
 g:=o.g
 N:=o.N
 nd:=o.nd
 calm:=o.calm
 room:=o.room
 loc:=λx q=>by
  show(relabel sc X.env).names.lookup x=_;rw[f9,show sc.names.lookup x=some .local from q];rfl
 cel:=λx q=>by
  exfalso;have q':=q;exact(vk o h).nocell _ (PySem.mem_of_lookup q') rfl
 fre:=λx q=>by
  show(relabel sc X.env).names.lookup x=_\/(relabel sc X.env).names.lookup x=_;rw[f9,show sc.names.lookup x=some .free from q];dsimp only[Option.map];split
  .exact .inl rfl
  .exact .inr rfl
 glo:=λx q=>by
  show(relabel sc X.env).names.lookup x=_;rw[f9,show sc.names.lookup x=some .globalImplicit from q];rfl
end
noncomputable def  A3:Const->wp
 |.int i=>λ_=>!(.int i)
 |.bool b=>λ_=>!(.bl b)
 |.none=>λ_=>some .non
 |.str x=>λ_=>!(.str x)
 |_=>λ_=>none
noncomputable def  noV {α:Type}:Vv->Option α:=λ_=>none
noncomputable def  A4:Expr->Bool
 |.UnaryOp .Not _ _=>false
 |.BoolOp _ _ _=>false
 |.IfExp _ _ _ _=>false
 |.Compare _ _ _ _=>false
 |_=>true
def plainT_ok (h:A4 e=true):∀whole,isTrue e env whole=(do let v<-whole;standAt e.pos;holding [v] (truthy v)):=by
 intro whole;cases e with
 |UnaryOp op a pos=>cases op<;>first|rfl|cases h
 |BoolOp _ _ _=>cases h
 |IfExp _ _ _ _=>cases h
 |Compare _ _ _ _=>cases h
 |_=>rfl
noncomputable def  A6:Expr->Bool
 |.Slice _ _ _ _=>false
 |_=>true
def noSl_ok (h:A6 b=true):eG b:=by
 intro o i;cases b<;>first|rfl|cases h
noncomputable def  Kt:Expr->Bool
 |.BinOp _ _ _ _=>true
 |_=>false
def  lsR:Expr->Bool
 |.ListComp _ _ _ _=>true
 |.Subscript _ k _=>not (A6 k)
 |_=>false
def  lsB:Expr->Bool
 |.BinOp _ op b _=>(match op with
  |.Add=>lsR b
  |_=>false)
 |_=>false
noncomputable def  Ku:Expr->Bool
 |.Tuple _ _ _=>true
 |_=>false
def  Fs (S:Sn) (m:Str) (apos pos:Pos) (args:Od):Bool:=args.all ax&&decide (args.length<30)&&(apos.endLine==pos.line)
def  nIn:Expr->CmpOp->Expr->Bool
 |.Constant .none _ _,.In,b=>gL b
 |_,_,_=>false
def A7 (h:nIn a op b=true):op=.In/\gL b=true:=by
 unfold nIn at h;split at h
 .exact⟨rfl,h⟩
 .cases h
noncomputable def  A8:Expr->Option (Str×Expr)
 |.Call f as ks _=>(match f,as,ks with
  |.Name g _,[b],[]=>!(g,b)
  |_,_,_=>none)
 |_=>none
def vm (h:A8 e=!(g,b)):∃p q,e=.Call (.Name g p) [b] [] q:=by
 unfold A8 at h;split at h
 .split at h
  .cases h;exact⟨_,_,rfl⟩
  .cases h
 .cases h
def  Hx (S:Sn) (f:Str):Od->Option Expr
 |[a]=>(match A8 a with
  |some (g,b)=>if f=("tuple":Str)/\g=("reversed":Str)/\glS S f=true/\S.G.no f=true/\glS S g=true/\S.G.no g=true/\ax b=true then !b else none
  |none=>none)
 |_=>none
def yy (h:Hx S f as=!b):∃p q,as=[.Call (.Name "reversed" p) [b] [] q]/\f=("tuple":Str)/\glS S "tuple"=true/\S.G.no "tuple"=true/\glS S "reversed"=true/\S.G.no "reversed"=true/\ax b=true:=by
 unfold Hx at h;split at h
 .split at h
  .rename_i g b' hc;split at h
   .rename_i k;cases h;let⟨p,q,rfl⟩:=vm hc;let⟨rfl,rfl,k⟩:=k;exact⟨p,q,rfl,rfl,k⟩
   .cases h
  .cases h
 .cases h
mutual
noncomputable def  rd:Nat->Sn->Expr->wp
 |0=>λ_ _=>noV
 |n+1=>λS e=>match e with
  |.Constant c _ _=>A3 c
  |.Name x _=>nmF S x
  |.BinOp a op b _=>if lsB e thenλY=>(rf n S e Y).map D.lst else Kq op (rd n S a) (rd n S b)
  |.UnaryOp op a _=>(match op with
   |.Not=>Db (rd n S a)
   |.USub=>λY=>(rd n S a Y).bind zW
   |_=>noV)
  |.BoolOp op vs p=>rl n S op vs p
  |.Compare a ops bs _=>(match ops,bs with
   |[op],[b]=>yx op b (rd n S a) (rd n S b)
   |[.LtE,.LtE],[b,c]=>if gL c then df leD leD (rd n S a) (rd n S b) (rd n S c)else noV
   |_,_=>noV)
  |.IfExp c a b _=>ifF (rq n S c) (rd n S a) (rd n S b)
  |.Tuple es _ _=>λY=>(bx (rx n S es Y)).bind λds=>!(.tup ds)
  |.Attribute o m _=>(match o with
   |.Name x _=>λY=>(nmF S x Y).bind (qN S.G.fl m)
   |_=>noV)
  |.Subscript a b _=>(match b with
   |.Slice lo hi none _=>orO (sM (rd n S a) (ro n S lo) (ro n S hi)) λY=>(xW (rd n S a) (ro n S lo) (ro n S hi) Y).map D.lst
   |b=>if A6 b then aa ixD (rd n S a) (rd n S b)else noV)
  |.Call f as ks pos=>(match ks with
   |[]=>(match f with
    |.Name f _=>(match as with
     |[]=>noV
     |a::as=>match Hx S f (a::as)with
      |some b=>λY=>(rx n S [b] Y).bind Hg
      |none=>orO (if(a::as).all ax thenλY=>(rx n S (a::as) Y).bind (AT S f)else noV) λY=>(rf n S e Y).map D.lst)
    |.Attribute o m apos=>(match o with
     |.Name x _=>(match as with
      |[]=>if Fs S m apos pos []thenλY=>valO (mW (nmF S x) (λ_=>![]) (S.G.mt m) S.k m Y)else noV
      |a::as=>if m=("index":Str)/\(as.isEmpty&&ax a&&(apos.endLine==pos.line))=true then oM (nmF S x) (rd n S a)else noV)
     |_=>noV)
    |_=>noV)
   |_=>noV)
  |_=>λY=>(rf n S e Y).map D.lst
noncomputable def  rl:Nat->Sn->BoolOp->Od->Pos->wp
 |0=>λ_ _ _ _=>noV
 |n+1=>λS op vs p=>match op,vs with
  |_,[a]=>rd n S a
  |.And,a::b::r=>oE (rd n S a) (rl n S .And (b::r) p)
  |_,_=>noV
noncomputable def  rq:Nat->Sn->Expr->Fr
 |0=>λ_ _=>noV
 |n+1=>λS e=>match e with
  |.UnaryOp op a _=>(match op with
   |.Not=>cC (rq n S a)
   |_=>noV)
  |.BoolOp op vs p=>rb n S op vs p
  |.Compare a ops bs _=>(match ops,bs with
   |[op],[b]=>if nIn a op b=true then ag (aa inE (rd n S a) (rd n S b))else ag (yx op b (rd n S a) (rd n S b))
   |[.LtE,.LtE],[b,c]=>if gL c then ag (df leD leD (rd n S a) (rd n S b) (rd n S c))else noV
   |_,_=>noV)
  |e=>if A4 e thenλY=>(rd n S e Y).bind uJ else noV
noncomputable def  rb:Nat->Sn->BoolOp->Od->Pos->Fr
 |0=>λ_ _ _ _=>noV
 |n+1=>λS op vs p=>match op,vs with
  |.And,[a]=>rq n S a
  |.Or,[a]=>rq n S a
  |.And,a::b::r=>Gq (rq n S a) (rb n S .And (b::r) p)
  |.Or,a::b::r=>orQ (rq n S a) (rb n S .Or (b::r) p)
  |_,_=>noV
noncomputable def  rx:Nat->Sn->Od->dl
 |0=>λ_ _=>noV
 |n+1=>λS es=>match es with
  |[]=>λ_=>![]
  |a::as=>if ax a then ab (rd n S a) (rx n S as)else noV
noncomputable def  ro:Nat->Sn->Option Expr->Vv->Option (Of)
 |0=>λ_ _=>noV
 |n+1=>λS e=>match e with
  |none=>λ_=>!none
  |some e=>c4 (rd n S e)
noncomputable def  rf:Nat->Sn->Expr->dl
 |0=>λ_ _=>noV
 |n+1=>λS e=>match e with
  |.List es _=>λY=>bx (rx n S es Y)
  |.ListComp elt gs sc _=>(match gs with
   |[g]=>if jz S sc&&gL g.iter&&decide (g.is_async=0)then
    ah (vi S.N sc.names) (rj n S g.target g.iter) (tgV {S with nm:=sc.names} n g.target) (rqs n {S with nm:=sc.names} g.ifs) (rd n {S with nm:=sc.names} elt)else noV
   |_=>noV)
  |.Subscript a b _=>(match b with
   |.Slice lo hi none _=>xW (rd n S a) (ro n S lo) (ro n S hi)
   |_=>noV)
  |.BinOp a op b _=>(match op with
   |.Add=>mY (if Kt a then orO (rd n S a) (λY=>(rf n S a Y).map D.lst)else rd n S a) (rd n S b)
   |_=>noV)
  |.Call f as ks _=>(match ks with
   |[]=>(match f with
    |.Name f _=>(match as with
     |[a]=>if f=("list":Str)/\glS S f=true/\S.G.no f=true/\ax a=true then orO (rv n S a) (λY=>(rx n S [a] Y).bind mN)
   else if f=("sorted":Str)/\glS S f=true/\S.G.no f=true/\ax a=true thenλY=>(rx n S [a] Y).bind bN else noV
     |_=>noV)
    |_=>noV)
   |_=>noV)
  |_=>noV
noncomputable def  rv:Nat->Sn->Expr->dl
 |0=>λ_ _=>noV
 |n+1=>λS e=>match e with
  |.Call (.Name f _) [a] [] _=>if f=("range":Str)/\glS S f=true/\S.G.no f=true/\glS S "list"=true/\S.G.no "list"=true/\ax a=true thenλY=>(rx n S [a] Y).bind lrD else noV
  |_=>noV
noncomputable def  rqs:Nat->Sn->Od->Fr
 |0=>λ_ _=>noV
 |n+1=>λS es=>match es with
  |[]=>λ_=>!true
  |[c]=>rq n S c
  |_=>noV
noncomputable def  rj:Nat->Sn->Expr->Expr->dl
 |0=>λ_ _ _=>noV
 |n+1=>λS tg e=>orO (match e with
  |.Call (.Name f _) [a] [] _=>if f=("range":Str)/\glS S f=true/\S.G.no f=true/\ax a=true thenλY=>(rx n S [a] Y).bind oF
   else if f=("enumerate":Str)/\glS S f=true/\S.G.no f=true/\ax a=true/\Ku tg=true thenλY=>(rx n S [a] Y).bind wA
   else if f=("reversed":Str)/\glS S f=true/\S.G.no f=true/\ax a=true thenλY=>(rx n S [a] Y).bind rvT else noV
  |.Call (.Name f _) [a,b] [] _=>if f=("range":Str)/\glS S f=true/\S.G.no f=true/\ax a=true/\ax b=true thenλY=>(rx n S [a,b] Y).bind sI
   else if f=("zip":Str)/\glS S f=true/\S.G.no f=true/\ax a=true/\ax b=true/\Ku tg=true thenλY=>(rx n S [a,b] Y).bind uM else noV
  |_=>noV) λY=>(rd n S e Y).bind seqD
end
section
variable {X:Cx} {S:Sn} {e:Expr} {es:Od} {pos:Pos}
def PP.u (h:PP X e f) (hc:gI e=false):PPu X e f:=λO Y=>(h O Y).pu hc
def PPu.p (h:PPu X e f):PP X e f:=λO Y=>(h O Y).1
def PF.u (h:PF X e f) (hc:gI e=false):PFu X e f:=λO Y=>(h O Y).pu hc
def tz:PQ X e noV:=λO Y pins s σ H Q I ⟨_,_,q,_⟩=>by cases q
def A9:PWQ X e noV:=λO Y wh pins s σ H Q I ⟨_,_,q,_⟩=>by cases q
def Ft:PX X es noV:=λO Y pos pins s σ H Q I ⟨_,_,q,_⟩=>by cases q
def Ba:PQs X es noV:=λO Y pins s σ H Q I ⟨_,_,q,_⟩=>by cases q
def wR:PJ X tg e noV:=λO Y pins s σ H R I ⟨_,_,q,_⟩=>by cases q
def Hy {e}:PPo X e noV:=λO Y pins s σ H Q I ⟨_,_,q,_⟩=>by cases q
def Kv (h1:PJ X tg e f) (h2:PJ X tg e g):PJ X tg e (orO f g):=λO Y pins s σ H R I ⟨E,ds,q,k⟩=>by
 rcases or_some q with q|q
 .exact h1 O Y pins s σ H R I ⟨E,ds,q,k⟩
 .exact h2 O Y pins s σ H R I ⟨E,ds,q,k⟩
def D6 {K} (h:tP K O Y (o.map D.lst) σ H Q):tPF K O Y o σ H Q:=by
 let⟨E,d,e,k⟩:=h;cases o with
 |none=>cases e
 |some ds=>
  cases e;refine⟨E,ds,rfl,λp xs H' s hp l=>?_⟩;have hO:=(E.grow s).fresh hp;exact k _ _ (s.trans (Same.new hp)) ⟨p,xs,rfl,.of (by rw[aA hO,ai]),IsL.mono (Same.new hp).msk _ _ l⟩
def PFu.pp (h:PFu X e f):PPu X e (λY=>(f Y).map D.lst):=λO Y=>(h O Y).imp λσ H Q q=>D6 q
def Hz (h1:PFu X e f) (h2:PFu X e g):PFu X e (orO f g):=λO Y=>(h1 O Y).by2 (h2 O Y) λσ H Q ⟨E,ds,q,k⟩=>by
 rcases or_some q with q|q;all_goals grind
def Bb (hc:X.calm=true) (C:CSc X scope ks) (hi:PJ X tg iter fi) (hg:∀C s H fp,PGD (!11) ks tg g) (ht:∀C s H fp,PQs (!11) ifs ft) (he:∀C s H fp,PP (!11) elt fe) (hs:∀x,foldedSetIterable iter X.env x=pure x):PFu X (!9) (ah ks fi g ft fe):=λO Y=>
 (wu hc C (hi O Y) (λC s H fp=>PG.ex λz:(Oa)×Vv×D=>hg C s H fp z.1 z.2.1 z.2.2) (λC s H fp=>PTs.ex λz:(Oa)×Vv=>ht C s H fp z.1 z.2) (λC s H fp=>PE.ex λz:(Oa)×Vv=>he C s H fp z.1 z.2) hs).imp λσ H Q h=>zM h
def D7 (hc:X.calm=true) (C:CSc X scope ks) (hi:PJ X tg iter fi) (hg:∀C s H fp,PGD (!11) ks tg g) (ht:∀C s H fp,PQs (!11) ifs ft) (he:∀C s H fp,PFr (!11) elt fe) (hs:∀x,foldedSetIterable iter X.env x=pure x):PFr X (!9) (λY=>(ah ks fi g ft fe Y).bind λds=>!(.lst ds)):=λY=>
 (wu hc C (hi noO Y) (λC s H fp=>PG.ex λz:(Oa)×Vv×D=>hg C s H fp z.1 z.2.1 z.2.2) (λC s H fp=>PTs.ex λz:(Oa)×Vv=>ht C s H fp z.1 z.2) (λC s H fp=>PE.ex λz:Vv=>(he C s H fp z).1) hs).imp λσ H Q h=>uR h
def D8 (c:Const):PP X (.Constant c j pos) (A3 c):=by
 cases c<;>first|exact pp_int|exact pp_bl|exact pp_non|exact pp_str|exact pp_no
structure Snd (n:Nat):Prop where
 rd:∀X S,SnOk X S->∀e,PPu X e (rd n S e)
 rl:∀X S,SnOk X S->∀op vs p,PP X (.BoolOp op vs p) (rl n S op vs p)
 rq:∀X S,SnOk X S->∀e,PQ X e (rq n S e)
 rb:∀X S,SnOk X S->∀op vs p,PWQ X (.BoolOp op vs p) (rb n S op vs p)
 rx:∀X S,SnOk X S->∀es,PX X es (rx n S es)
 ro:∀X S,SnOk X S->∀e,PPo X e (ro n S e)
 rf:∀X S,SnOk X S->∀e,PFu X e (rf n S e)
 rv:∀X S,SnOk X S->∀e p q,PFu X (.Call (.Name "list" p) [e] [] q) (rv n S e)
 rqs:∀X S,SnOk X S->∀es,PQs X es (rqs n S es)
 rj:∀X S,SnOk X S->∀tg e,PJ X tg e (rj n S tg e)
def lastM (h:gL c=true):lastMarks [.LtE,.LtE] [b,c]=false:=noSet_mark h
def MI (n:Nat) (I:Snd n) (o:SnOk X S) (e:Expr):PPu X e (rd (n+1) S e):=by
 have P:=λe=>(I.rd X S o e).p;have no:PPu X e noV:=qK;unfold L2.rd;split
 .exact(D8 _).u rfl
 .exact(re o _).u rfl
 .split
  .exact(I.rf X S o _).pp
  .exact(Kr _ (P _) (P _)).u rfl
 .split
  .exact(Gv (P _)).u rfl
  .exact(zX (P _)).u rfl
  .exact no
 .exact(I.rl X S o _ _ _).u rfl
 .split
  .exact(Ks o _ (P _) (P _)).u rfl
  .split
   .rename_i h;exact(pp_lele (P _) (P _) (P _) (lastM h)).u rfl
   .exact no
  .exact no
 .exact(JV (I.rq X S o _) (P _) (P _)).u rfl
 .exact(zH (I.rx X S o _)).u rfl
 .split
  .exact(GV (re o _) (λC Ca h1 h2=>o.g.fl C _ Ca h1 h2) rfl).u rfl
  .exact no
 .split
  .exact uQ ((GI (P _) (I.ro X S o _) (I.ro X S o _)).u rfl) ((Aa (P _) (I.ro X S o _) (I.ro X S o _)).u rfl).pp
  .split
   .rename_i h;exact(pp_ix (P _) (P _) (noSl_ok h)).u rfl
   .exact no
 .split
  .split
   .split
    .exact no
    .split
     .rename_i b hb;let⟨_,_,he,rfl,h1,h2,h3,h4,h5⟩:=yy hb;cases he;let⟨ok,gl⟩:=aK o h1;let⟨ok2,gl2⟩:=aK o h3;exact(Hh o.calm gl (o.g.no _ h2) gl2 (o.g.no _ h4) (I.rx X S o _) (star1 h5)).u rfl
     .refine uQ ?_ (I.rf X S o _).pp;split
      .rename_i h;exact(k_call o _ (I.rx X S o _) h).u rfl
      .exact qK
   .split
    .split
     .split
      .rename_i h;unfold Fs at h;rw[and_eq_true,and_eq_true]at h;exactλO Y=>(GX (x9 (re o _) (λC k f q=>o.g.mt _ C k f q) o.room h.2 O Y)).pu rfl
      .exact no
     .rename_i as;split
      .rename_i h;let⟨rfl,h⟩:=h;rw[and_eq_true,and_eq_true]at h;cases as with
       |nil=>exact(yu (room60 o.room) (re o _) (P _) (star1 h.1.2) h.2).u rfl
       |cons _ _=>cases h.1.1
      .exact no
    .exact no
   .exact no
  .exact no
 .exact(I.rf X S o _).pp
def MJ (n:Nat) (I:Snd n) (o:SnOk X S) (op:BoolOp) (vs:Od) (p:Pos):PP X (.BoolOp op vs p) (rl (n+1) S op vs p):=by
 have P:=λe=>(I.rd X S o e).p;unfold L2.rl;split
 .exact Gs (P _)
 .exact Gu (P _) (I.rl X S o _ _ _)
 .exact pp_no
def MK (n:Nat) (I:Snd n) (o:SnOk X S) (e:Expr):PQ X e (rq (n+1) S e):=by
 have P:=λe=>(I.rd X S o e).p;unfold L2.rq;split
 .split
  .exact Gw (I.rq X S o _)
  .exact tz
 .exact(I.rb X S o _ _ _).pq
 .split
  .split
   .rename_i h;let⟨rfl,h2⟩:=A7 h;exact pq_cmp (Ht (room60 o.room)) Kn (P _) (P _) (noSet_mark h2)
   .exact Hw o _ (P _) (P _)
  .split
   .rename_i h;exact pq_lele (P _) (P _) (P _) (lastM h)
   .exact tz
  .exact tz
 .split
  .rename_i h;exact pq_val (P _) (plainT_ok h)
  .exact tz
def ML (n:Nat) (I:Snd n) (o:SnOk X S) (op:BoolOp) (vs:Od) (p:Pos):PWQ X (.BoolOp op vs p) (rb (n+1) S op vs p):=by
 unfold L2.rb;split
 .exact pw_and1D (I.rq X S o _)
 .exact pw_or1D (I.rq X S o _)
 .exact pw_andD (I.rq X S o _) (I.rb X S o _ _ _)
 .exact pw_orD (I.rq X S o _) (I.rb X S o _ _ _)
 .exact A9
def MM (n:Nat) (I:Snd n) (o:SnOk X S) (es:Od):PX X es (rx (n+1) S es):=by
 unfold L2.rx;split
 .exact uK
 .split
  .rename_i h;exact px_cons (I.rd X S o _).p (I.rx X S o _) (star1 h)
  .exact Ft
def MN (n:Nat) (I:Snd n) (o:SnOk X S) (e:Option Expr):PPo X e (ro (n+1) S e):=by
 unfold L2.ro;split
 .exact zZ
 .exact z0 (I.rd X S o _).p
def Kw (n:Nat) (I:Snd n) (o:SnOk X S) (es:Od):PQs X es (rqs (n+1) S es):=by
 unfold L2.rqs;split
 .exact Dk
 .exact Dl (I.rq X S o _)
 .exact Ba
def HA:bootBuiltins "list"=!(.type "list"):=by decide+kernel
def MO (n:Nat) (I:Snd n) (o:SnOk X S) (e:Expr):PFu X e (rf (n+1) S e):=by
 have P:=λe=>(I.rd X S o e).p;unfold L2.rf;split
 .exact(Gx (I.rx X S o _)).u rfl
 .split
  .rename_i g;split
   .rename_i h;rw[and_eq_true,and_eq_true]at h;let⟨tg,iter,ifs,as⟩:=g;have ha:as=0:=Oq h.2;subst ha;have hb:=tw o h.1.1;exact Bb o.calm (vk o h.1.1) (I.rj X S o _ _) (λC s H fp=>(Fq (hb C s H fp) n).1 tg) (λC s H fp=>I.rqs _ _ (hb C s H fp) _) (λC s H fp=>(I.rd _ _ (hb C s H fp) _).p) (f8 h.1.2)
   .exact cG
  .exact cG
 .split
  .exact(Aa (P _) (I.ro X S o _) (I.ro X S o _)).u rfl
  .exact cG
 .split
  .refine(Hd ?_ (P _)).u rfl;split
   .exact(uQ (I.rd X S o _) (I.rf X S o _).pp).p
   .exact P _
  .exact cG
 .split
  .split
   .split
    .split
     .rename_i h;let⟨rfl,h1,h2,h3⟩:=h;let⟨ok,gl⟩:=aK o h1;exact Hz (I.rv X S o _ _ _) ((Dd gl (o.g.no _ h2) HA (I.rx X S o _) (star1 h3)).u rfl)
     .split
      .rename_i h;let⟨rfl,h1,h2,h3⟩:=h;let⟨ok,gl⟩:=aK o h1;exact(AI o.room gl (o.g.no _ h2) (I.rx X S o _) (star1 h3)).u rfl
      .exact cG
    .exact cG
   .exact cG
  .exact cG
 .exact cG
def MP (n:Nat) (I:Snd n) (o:SnOk X S) (e:Expr) (p q:Pos):PFu X (.Call (.Name "list" p) [e] [] q) (rv (n+1) S e):=by
 unfold L2.rv;split
 .split
  .rename_i h;let⟨rfl,h1,h2,h3,h4,h5⟩:=h;let⟨ok,gl⟩:=aK o h1;let⟨ok2,gl2⟩:=aK o h3;exact(DY o.calm gl2 (o.g.no _ h4) gl (o.g.no _ h2) (I.rx X S o _) (star1 h5)).u rfl
  .exact cG
 .exact cG
def MQ (n:Nat) (I:Snd n) (o:SnOk X S) (tg e:Expr):PJ X tg e (rj (n+1) S tg e):=by
 unfold L2.rj;refine Kv ?_ (GB (I.rd X S o _).p);split
 .split
  .rename_i h;let⟨rfl,h1,h2,h3⟩:=h;let⟨ok,gl⟩:=aK o h1;exact xR gl (o.g.no _ h2) (I.rx X S o _) (star1 h3)
  .split
   .rename_i h;let⟨rfl,h1,h2,h3,h4⟩:=h;let⟨ok,gl⟩:=aK o h1;cases tg<;>first
     |exact Hc gl (o.g.no _ h2) (I.rx X S o _) (star1 h3)
     |cases h4
   .split
    .rename_i h;let⟨rfl,h1,h2,h3⟩:=h;let⟨ok,gl⟩:=aK o h1;exact Kf gl (o.g.no _ h2) (I.rx X S o _) (star1 h3)
    .exact wR
 .split
  .rename_i h;let⟨rfl,h1,h2,h3,h4⟩:=h;let⟨ok,gl⟩:=aK o h1;exact xS gl (o.g.no _ h2) (I.rx X S o _) (by rw[star1 h3,star1 h4];rfl) (star1 h4)
  .split
   .rename_i h;let⟨rfl,h1,h2,h3,h4,h5⟩:=h;let⟨ok,gl⟩:=aK o h1;cases tg<;>first
     |exact GG gl (o.g.no _ h2) (I.rx X S o _) (by rw[star1 h3,star1 h4];rfl) (star1 h4)
     |cases h5
   .exact wR
 .exact wR
def sound:∀n,Snd n
 |0=>⟨λ_ _ _ _=>qK,λ_ _ _ _ _ _=>pp_no,λ_ _ _ _=>tz,λ_ _ _ _ _ _=>A9,λ_ _ _ _=>Ft,λ_ _ _ _=>Hy,λ_ _ _ _=>cG,λ_ _ _ _ _ _=>cG,λ_ _ _ _=>Ba,λ_ _ _ _ _=>wR⟩
 |n+1=>⟨λX S o e=>MI n (sound n) o e,λX S o op vs p=>MJ n (sound n) o op vs p,λX S o e=>MK n (sound n) o e,λX S o op vs p=>ML n (sound n) o op vs p,λX S o es=>MM n (sound n) o es,λX S o e=>MN n (sound n) o e,
  λX S o e=>MO n (sound n) o e,λX S o e p q=>MP n (sound n) o e p q,λX S o es=>Kw n (sound n) o es,λX S o tg e=>MQ n (sound n) o tg e⟩
end
mutual
noncomputable def  fr:Nat->Sn->Expr->wp
 |0=>λ_ _=>noV
 |n+1=>λS e=>orO (λY=>lfO (rd n S e Y)) (orO (λY=>fJ (rf n S e Y)) (match e with
  |.List es _=>λY=>(bx (frl n S es Y)).bind λds=>!(.lst ds)
  |.Tuple es _ _=>λY=>(bx (frl n S es Y)).bind λds=>!(.tup ds)
  |.Dict [] [] _=>λ_=>!(.dct [] [])
  |.ListComp elt [g] sc _=>if jz S sc&&gL g.iter&&decide (g.is_async=0)then
   λY=>(ah (vi S.N sc.names) (rj n S g.target g.iter) (tgV {S with nm:=sc.names} n g.target) (rqs n {S with nm:=sc.names} g.ifs) (fr n {S with nm:=sc.names} elt) Y).bind λds=>!(.lst ds)else noV
  |.Call (.Name f _) (a::as) [] _=>if(a::as).all ax thenλY=>(rx n S (a::as) Y).bind (AU S f)else noV
  |_=>noV))
noncomputable def  frl:Nat->Sn->Od->dl
 |0=>λ_ _=>noV
 |n+1=>λS es=>match es with
  |[]=>λ_=>![]
  |a::as=>if ax a then ab (fr n S a) (frl n S as)else noV
end
section
variable {X:Cx} {S:Sn} {e:Expr} {es:Od} {pos:Pos}
def Bc:uP X es noV:=λY pos pins s σ H Q I ⟨_,_,q,_⟩=>by cases q
def MR:∀n,(∀X S,SnOk X S->∀e,PFr X e (fr n S e))/\∀X S,SnOk X S->∀es,uP X es (frl n S es):=by
 intro n;induction n with
 |zero=>exact⟨λX S o e=>sN,λX S o es=>Bc⟩
 |succ n ih=>
  refine⟨λX S o e=>?_,λX S o es=>?_⟩
  .unfold fr;refine Fk (J6 ((sound n).rd X S o e)) (Fk (Ac ((sound n).rf X S o e)) ?_);split
   .exact GK (ih.2 X S o _)
   .exact GL (ih.2 X S o _)
   .exact Hj
   .rename_i elt g sc p;split
    .rename_i h;rw[and_eq_true,and_eq_true]at h;let⟨tg,iter,ifs,as⟩:=g;have ha:=Oq h.2;subst ha;have hb:=tw o h.1.1;exact D7 o.calm (vk o h.1.1) ((sound n).rj X S o _ _) (λC s H fp=>(Fq (hb C s H fp) n).1 tg) (λC s H fp=>(sound n).rqs _ _ (hb C s H fp) _) (λC s H fp=>ih.1 _ _ (hb C s H fp) _) (f8 h.1.2)
    .exact sN
   .split
    .rename_i h;exact k_callR o _ ((sound n).rx X S o _) h
    .exact sN
   .exact sN
  .unfold frl;split
   .exact Ds
   .split
    .rename_i h;exact frs_cons (ih.1 X S o _) (ih.2 X S o _) (star1 h)
    .exact Bc
end
def  ev (n:Nat) (S:Sn) (e:Expr):NZ:=orO (i8 (fr n S e)) (orO (pR (rf n S e)) (orO (xY (rd n S e)) (Dt (rd n S e))))
def s_ev (n:Nat) (o:SnOk X S) (e:Expr):PEv X e (ev n S e):=wv (Fl ((MR n).1 X S o e)) (wv (Ad ((sound n).rf X S o e)) (wv (Fm ((sound n).rd X S o e)) (J7 ((sound n).rd X S o e))))
structure TnOk (X:Cx) (S:Sn):Prop where
 s:SnOk X S
 fn:∀x,X.fn x=true
 nox:X.xe=λ_ _=>False
 nm:X.env.scope.names=S.nm
def  wS (S:Sn) (x:Str):Option Nat:=if eY x&&(decide (S.nm.lookup x=some .local)||decide (S.nm.lookup x=some .cell))then qL S.N x else none
noncomputable def  noO':Cl:=λ_=>none
noncomputable def  Fu:Expr->Bool
 |.Constant (.str _) _ _=>true
 |_=>false
noncomputable def  cK:Expr->Option Str
 |.Name x _=>!x
 |_=>none
noncomputable def  vn:Expr->Bool
 |.Call _ _ _ _=>true
 |.Name _ _=>true
 |.Subscript _ _ _=>true
 |_=>false
noncomputable def  wT:Expr->Option (Str×Str)
 |.Tuple [.Constant (.str c) _ _,.Name x _] _ _=>!(c,x)
 |_=>none
def vo (h:wT e=!(c,x)):∃j p1 px x1 p2,e=.Tuple [.Constant (.str c) j p1,.Name x px] x1 p2:=by
 unfold wT at h;split at h
 .cases h;exact⟨_,_,_,_,_,rfl⟩
 .cases h
def  exR (n:Nat) (S:Sn):Option Expr->Cl
 |none=>λ_=>!(.rt (.deep,.non))
 |some e=>match cK e with
  |some x=>(match bB S x with|some i=>λY=>(eB Y i).bind λs=>!(.rt s)|none=>bW (ev n S e))
  |none=>match wT e with
   |some (c,x)=>(match bB S x with|some i=>orO (rtP c i) (bW (ev n S e))|none=>bW (ev n S e))
   |none=>bW (ev n S e)
def  Bd (n:Nat) (S:Sn) (t e:Expr):Cl:=match t with
 |.Name x _=>(match wS S x with|some i=>ao i (ev n S e)|none=>noO')
 |.Subscript o k _=>(match cK o with
  |some x=>if A6 k&&not (gI e) then(match bB S x with|some i=>orO (ja i (rd n S k) (ev n S e)) (Ay i (rd n S k) (rd n S e))|none=>noO')else noO'
  |none=>noO')
 |.Tuple ts k p=>if vn e then orO (DA (rd n S e) (tgE S n (.Tuple ts k p))) (GQ (rd n S e) (tgE S n (.Tuple ts k p)))else noO'
 |_=>noO'
def  exA (n:Nat) (S:Sn) (ts:Od) (e:Expr):Cl:=match ts with
 |[t]=>Bd n S t e
 |_=>noO'
def  yz (i j:Nat) (g:NZ) (R:wp):Cl:=orO (i9 i g) (i9 i λY=>xY R (frzS [j] Y))
noncomputable def  lcL:Expr->Bool
 |.ListComp (.List _ _) _ _ _=>true
 |_=>false
def  HB (n:Nat) (S:Sn) (i:Nat) (m:Str) (e:Expr):Cl:=if m=("append":Str)then(match(cK e).bind (bB S)with
 |some j=>yz i j (ev n S e) (rd n S e)
 |none=>i9 i (ev n S e))else if m=("extend":Str)then(if lcL e then orO (gx i (rd n S e)) (yp i (ev n S e))else gx i (rd n S e))else noO'
noncomputable def  m1E:Expr->Bool
 |.UnaryOp .USub (.Constant (.int i) _ _) _=>decide (i=1)
 |_=>false
noncomputable def  c1E:Expr->Bool
 |.Constant (.int i) _ _=>decide (i=1)
 |_=>false
def  D9:Expr->Option (Str×Expr)
 |.Subscript o k _=>(cK o).bind λx=>!(x,k)
 |_=>none
def  exG (n:Nat) (S:Sn) (o k:Expr) (m:Str) (e:Expr):Cl:=match D9 o with
 |some (x,k1)=>if m=("append":Str)/\m1E k1=true/\c1E k=true then(match bB S x with
  |some i=>yo i (rd n S e)
  |none=>noO')else noO'
 |none=>noO'
def  exM (n:Nat) (S:Sn) (o:Expr) (m:Str) (e:Expr):Cl:=match o with
 |.Name x _=>(match bB S x with|some i=>HB n S i m e|none=>noO')
 |.Subscript o k _=>(match(cK o).bind (bB S)with|some i=>if m=("append":Str)/\c1E k=true then apP i (rd n S e)else noO'|none=>exG n S o k m e)
 |_=>noO'
noncomputable def  wU:Expr->Option (Expr×Str×Pos×Expr×Pos)
 |.Call (.Attribute o m apos) [e] [] cpos=>!(o,m,apos,e,cpos)
 |_=>none
noncomputable def  Ea:Expr->Option (Expr×Pos×Expr×Expr×Pos)
 |.Call (.Attribute o m apos) [a,b] [] cpos=>if m=("insert":Str)then !(o,apos,a,b,cpos)else none
 |_=>none
def  exI (n:Nat) (S:Sn) (o a b:Expr):Cl:=match o with
 |.Name x _=>(match bB S x with|some i=>AJ i (rd n S a) (rd n S b)|none=>noO')
 |_=>noO'
def  exV (n:Nat) (S:Sn) (e:Expr):Cl:=match Ea e with
 |some (o,apos,a,b,cpos)=>if ax a&&ax b&&(apos.endLine==cpos.line)then exI n S o a b else noO'
 |none=>if gI e then noO' else lj (rd n S e)
def  exX (n:Nat) (S:Sn) (e:Expr):Cl:=if Fu e thenλY=>!(.nx Y)else match wU e with
 |some (o,m,apos,a,cpos)=>if ax a&&(apos.endLine==cpos.line)then exM n S o m a else noO'
 |none=>exV n S e
noncomputable def  Kx:List Stmt->Bool
 |.Assign [.Name _ _] (.Subscript _ _ _) _::_=>true
 |[.Expr (.Call (.Attribute (.Name _ _) _ _) [_] [] _) _]=>true
 |_=>false
def  MS (S:Sn) (iter:Expr) (body:List Stmt):Option Nat:=if Kx body then(cK iter).bind (bB S)else none
def  MU (S:Sn):Expr->Option (Nat×Nat)
 |.Call (.Name f _) [a,b] [] _=>if f=("zip":Str)then((cK a).bind (bB S)).bind λi=>((cK b).bind (bB S)).bind λj=>!(i,j)else none
 |_=>none
mutual
noncomputable def  ex:Nat->Sn->Stmt->Cl
 |0=>λ_ _=>noO'
 |n+1=>λS st=>match st with
  |.Return v _=>exR n S v
  |.Assign ts e _=>exA n S ts e
  |.If c a b _=>ifS (rq n S c) (exs n S a) (exs n S b)
  |.For tg iter body els _=>if els.isEmpty&&gL iter then(match MU S iter with
   |some (i,j)=>orO (c6 (rj n S tg iter) (tgE S n tg) (exs n S body)) (orO (λY=>c6 (rj n S tg iter) (tgE S n tg) (exs n S body) (frzS [i,j] Y)) (uU (rj n S tg iter) (tgE S n tg) (exs n S body)))
   |none=>match MS S iter body with
   |some i=>orO (c6 (rj n S tg iter) (tgE S n tg) (exs n S body)) (orO (λY=>c6 (rj n S tg iter) (tgE S n tg) (exs n S body) (frzS [i] Y)) (uU (rj n S tg iter) (tgE S n tg) (exs n S body)))
   |none=>orO (c6 (rj n S tg iter) (tgE S n tg) (exs n S body)) (uU (rj n S tg iter) (tgE S n tg) (exs n S body)))else noO'
  |.Pass _=>λY=>!(.nx Y)
  |.Expr e _=>exX n S e
  |_=>noO'
noncomputable def  exs:Nat->Sn->List Stmt->Cl
 |0=>λ_ _=>noO'
 |n+1=>λS st=>match st with
  |[]=>λY=>!(.nx Y)
  |s::r=>ac (ex n S s) (exs n S r)
end
section
variable {X:Cx} {S:Sn}
def vp (o:TnOk X S) (h:wS S x=!i):eY x=true/\Loc X.env.scope x/\X.N[i]?=!x:=by
 unfold wS at h;split at h
 .rename_i c;rw[and_eq_true,Bool.or_eq_true]at c;refine⟨c.1,?_,by rw[o.s.N];exact fL h⟩;rcases c.2 with c|c
  .exact .inl (o.s.loc _ (Oq c))
  .exact .inr (o.s.cel _ (Oq c))
 .cases h
def swaps_name (e:Expr) (x:Str) (p:Pos) (l:Nat) (env:Env):swapsWith e (!(.Name x p)) l env=pure false\/(swapsWith e (!(.Name x p)) l env=pure true/\env.scope.names.lookup x=some .local):=by
 have key:∀ (b1 b2 b3:Bool),(pure (b1&&(env.kindOf x==some .local)&&b2&&b3):Sem Bool)=pure false\/((pure (b1&&(env.kindOf x==some .local)&&b2&&b3):Sem Bool)=pure true/\env.scope.names.lookup x=some .local):=λb1 b2 b3=>by
  cases hk:(env.kindOf x==!NameKind.local)with
  |false=>left;cases b1<;>rfl
  |true=>
   have hl:env.scope.names.lookup x=some .local:=by
    have hk':env.kindOf x=some .local:=by simpa using hk
    exact hk'
   cases b1<;>cases b2<;>cases b3<;>first|exact .inl rfl|exact .inr ⟨rfl,hl⟩
 cases e<;>first
  |exact .inl rfl
  |exact key _ _ _
def bC {st}:PR X st noO':=Ag
def gN (h:eY x=true):(!7)=false/\(!12)=false:=⟨(cH h).1,(cH h).2.1⟩
def Be (h:A6 ik=true):∀v,assign (.Subscript (!18) ik spos) env v=(do
  let ov<-holding [v] (eval (!18) env)
  let iv<-holding [v,ov] (eval ik env)
  standAt spos
  holding [v,ov,iv] (setItem ov iv v)
  release [v,ov,iv] []):=by
 intro v
 cases ik<;>first|rfl|cases h
def mh (h:gI e=false):swapsWithSole [t] e l env=pure false:=by
 exact mT h _ _ _
def wV:swappedStores [.Subscript (!18) ik spos] e env=pure none:=by
 cases e<;>rfl
def tB (h:vn e=true):swappedStores [t] e env=pure none:=by
 cases e<;>first|rfl|(cases t<;>rfl)|cases h
def nu (h:vn e=true):gI e=false:=by
 cases e<;>first|rfl|cases h
def c9 (h:cK e=!x):∃p,e=.Name x p:=by
 cases e<;>first|(cases h;exact⟨_,rfl⟩)|cases h
def vq (h:Fu e=true):∃x k p,e=.Constant (.str x) k p:=by
 cases e with
 |Constant c k p=>cases c<;>first|exact⟨_,_,_,rfl⟩|cases h
 |_=>cases h
def vt (h:wU e=!(o,m,ap,a,cp)):e=.Call (.Attribute o m ap) [a] [] cp:=by
 unfold wU at h;split at h
 .cases h;rfl
 .cases h
def Ky (n:Nat) (o:TnOk X S) (v:Option Expr):PR X (.Return v pos) (exR n S v):=by
 cases v with
 |none=>exact Dv
 |some e=>
  unfold exR;dsimp only;cases h:cK e with
  |none=>
   have R:=uS (pos:=pos) (s_ev n o.s e);cases hp:wT e with
   |none=>exact R
   |some z=>
    let⟨c,x⟩:=z;dsimp only;cases hi:bB S x with
    |none=>exact R
    |some i=>
     let⟨jj,p1,px,x1,p2,rfl⟩:=vo hp;let⟨h1,h2,h3,_⟩:=bc o.s hi;let⟨a,b⟩:=gN h1;exact gK (vf i c h3 h2 a b) R
  |some x=>
   let⟨p,rfl⟩:=c9 h;dsimp only;cases hi:bB S x with
   |none=>exact uS (s_ev n o.s _)
   |some i=>
    let⟨h1,h2,h3,_⟩:=bc o.s hi;let⟨a,b⟩:=gN h1;exact uT i h3 h2 a b
def HC (n:Nat) (o:TnOk X S) (t e:Expr) {pos:Pos}:PR X (.Assign [t] e pos) (Bd n S t e):=by
 have P:=λe=>((sound n).rd X S o.s e).p;cases t with
 |Name x p=>
  unfold Bd;dsimp only;cases hi:wS S x with
  |none=>exact bC
  |some i=>
   let⟨h1,h2,h3⟩:=vp o hi;exact GN (by rw[o.s.N];exact o.s.nd) h3 h2 (s_ev n o.s _) (.inl (o.fn _)) (swaps_name _ _ _ _ _)
 |Subscript ob k p=>
  unfold Bd;dsimp only;cases hn:cK ob with
  |none=>exact bC
  |some x=>
   let⟨px,rfl⟩:=c9 hn;dsimp only;split
   .rename_i h;rw[and_eq_true]at h;cases hi:bB S x with
    |none=>exact bC
    |some i=>
     let⟨h1,h2,h3,_⟩:=bc o.s hi;let⟨a,b⟩:=gN h1;exact gK (GS i (s_ev n o.s _) (P _) h3 h2 a b (Be h.1) (mh (by simpa using h.2)) wV (asg1 rfl)) (Hk i (P _) (P _) h3 h2 a b (Be h.1) (mh (by simpa using h.2)) wV (asg1 rfl))
   .exact bC
 |Tuple ts k p=>
  unfold Bd;dsimp only;split
  .rename_i h;exact gK (DB (P _) ((wQ o.s o.fn n).1 _) (mh (nu h)) (tB h) (asg1 rfl)) (DC (P _) ((wQ o.s o.fn n).1 _) (mh (nu h)) (tB h) (asg1 rfl))
  .exact bC
 |_=>exact bC
def Kz (n:Nat) (o:TnOk X S) (ts:Od) (e:Expr):PR X (.Assign ts e pos) (exA n S ts e):=by
 cases ts with
 |nil=>exact bC
 |cons t r=>cases r with
  |nil=>exact HC n o t e
  |cons _ _=>exact bC
def HE (n:Nat) (o:TnOk X S) (m:Str) (e:Expr) (hi:bB S x=!i) (hs:ax e=true) (hl:(ap.endLine==cp.line)=true):PR X (.Expr (.Call (.Attribute (!18) m ap) [e] [] cp) pos) (HB n S i m e):=by
 let⟨h1,h2,h3,_⟩:=bc o.s hi;let⟨a,b⟩:=gN h1;unfold HB;split
 .rename_i hm;subst hm;split
  .exact gK (j7 i (s_ev n o.s _) h3 h2 a b (star1 hs) hl) (j7 i (Hi _ (Fm ((sound n).rd X S o.s e))) h3 h2 a b (star1 hs) hl)
  .exact j7 i (s_ev n o.s _) h3 h2 a b (star1 hs) hl
 .split
  .rename_i hm;subst hm;have F:=yc (pos:=pos) (px:=px) i ((sound n).rd X S o.s e).p h3 h2 a b (star1 hs) hl;split
   .exact gK F (vh i (s_ev n o.s _) h3 h2 a b (star1 hs) hl)
   .exact F
  .exact bC
def Bf (h:m1E k=true):PP X k (λ_=>!(.int (-1)))/\eG k:=by
 unfold m1E at h;split at h
 .obtain rfl:=Oq h;exact⟨zX pp_int,λ_ _=>rfl⟩
 .cases h
def rh (h:c1E k=true):PP X k (λ_=>!(.int 1))/\eG k:=by
 unfold c1E at h;split at h
 .obtain rfl:=Oq h;exact⟨pp_int,λ_ _=>rfl⟩
 .cases h
def yA (h:D9 e=!(x,k)):∃p sp,e=.Subscript (.Name x p) k sp:=by
 unfold D9 at h;split at h
 .let⟨y,h1,h2⟩:=OH h;let⟨p,rfl⟩:=c9 h1;cases h2;exact⟨_,_,rfl⟩
 .cases h
def KA (n:Nat) (o:TnOk X S) (ob k:Expr) (m:Str) (e:Expr) (hs0:ax e=true) (hl:(ap.endLine==cp.line)=true):PR X (.Expr (.Call (.Attribute (.Subscript ob k sp) m ap) [e] [] cp) pos) (exG n S ob k m e):=by
 unfold exG;cases h1:D9 ob with
 |none=>exact bC
 |some z=>
  let⟨x,k1⟩:=z;let⟨p1,sp1,rfl⟩:=yA h1;dsimp only;split
  .rename_i h;let⟨rfl,hm,hc⟩:=h;cases hi:bB S x with
   |none=>exact bC
   |some i=>
    let⟨g1,g2,g3,_⟩:=bc o.s hi;let⟨c,d⟩:=gN g1;exact Hq i ((sound n).rd X S o.s _).p (Bf hm).1 (rh hc).1 (Bf (X:=X) hm).2 (rh (X:=X) hc).2 g3 g2 c d (star1 hs0) hl
  .exact bC
def KC (n:Nat) (o:TnOk X S) (ob:Expr) (m:Str) (e:Expr) (hs:ax e=true) (hl:(ap.endLine==cp.line)=true):PR X (.Expr (.Call (.Attribute ob m ap) [e] [] cp) pos) (exM n S ob m e):=by
 cases ob with
 |Name x p=>
  unfold exM;dsimp only;cases hi:bB S x with
  |none=>exact bC
  |some i=>exact HE n o m e hi hs hl
 |Subscript ob k p=>
  unfold exM;dsimp only;cases hn:(cK ob).bind (bB S)with
  |none=>exact KA n o ob k m e hs hl
  |some i=>
   let⟨x,e1,hi⟩:=OH hn;let⟨px,rfl⟩:=c9 e1;dsimp only;let⟨h1,h2,h3,_⟩:=bc o.s hi;let⟨a,b⟩:=gN h1;split
   .rename_i h;let⟨rfl,hk⟩:=h;exact Hr i ((sound n).rd X S o.s _).p (rh hk).1 (rh (X:=X) hk).2 h3 h2 a b (star1 hs) hl
   .exact bC
 |_=>exact bC
def yB (h:Ea e=!(o,ap,a,b,cp)):e=.Call (.Attribute o "insert" ap) [a,b] [] cp:=by
 unfold Ea at h;split at h
 .let⟨h1,h2⟩:=ar h;cases h2;rw[h1]
 .cases h
def KD (n:Nat) (o:TnOk X S) (ob a b:Expr) (ha:ax a=true) (hb:ax b=true) (hl:(ap.endLine==cp.line)=true):PR X (.Expr (.Call (.Attribute ob "insert" ap) [a,b] [] cp) pos) (exI n S ob a b):=by
 have P:=λe=>((sound n).rd X S o.s e).p;cases ob with
 |Name x p=>
  unfold exI;dsimp only;cases hi:bB S x with
  |none=>exact bC
  |some i=>
   let⟨h1,h2,h3,_⟩:=bc o.s hi;let⟨c,d⟩:=gN h1;exact yn i (P _) (P _) h3 h2 c d (star1 ha) (star1 hb) hl
 |_=>exact bC
def KE (n:Nat) (o:TnOk X S) (e:Expr):PR X (.Expr e pos) (exV n S e):=by
 unfold exV;cases hm:Ea e with
 |some z=>
  let⟨ob,ap,a,b,cp⟩:=z;have:=yB hm;subst this;dsimp only;split
  .rename_i h;rw[and_eq_true,and_eq_true]at h;exact KD n o ob a b h.1.1 h.1.2 h.2
  .exact bC
 |none=>
  dsimp only;split
  .exact bC
  .rename_i h;exact Dw ((sound n).rd X S o.s e).p (mT (by simpa using h) _ _ _)
def KF (n:Nat) (o:TnOk X S) (e:Expr):PR X (.Expr e pos) (exX n S e):=by
 unfold exX;split
 .rename_i h;let⟨x,k,p,rfl⟩:=vq h;exact GM
 .cases hm:wU e with
  |some z=>
   let⟨ob,m,ap,a,cp⟩:=z;have:=vt hm;subst this;dsimp only;split
   .rename_i h;rw[and_eq_true]at h;exact KC n o ob m a h.1 h.2
   .exact bC
  |none=>exact KE n o e
def Eb:∀n,(∀X S,TnOk X S->∀st,PR X st (ex n S st))/\∀X S,TnOk X S->∀st,PRs X st (exs n S st):=by
 intro n;induction n with
 |zero=>exact⟨λX S o e=>bC,λX S o es=>Af⟩
 |succ n ih=>
  refine⟨λX S o st=>?_,λX S o st=>?_⟩
  .have pass:PassesOwn (!4) X.A X.env X.xe:=by rw[o.nox];exact PassesOwn.never
   unfold ex;cases st with
   |Return v p=>exact Ky n o v
   |Assign ts e p=>exact Kz n o ts e
   |If c a b p=>exact J8 ((sound n).rq X S o.s _) (ih.2 X S o _) (ih.2 X S o _)
   |For tg iter body els p=>
    dsimp only;split
    .rename_i h;rw[and_eq_true]at h;cases els with
     |nil=>
      have F1:=GP (pos:=p) pass o.s.calm ((sound n).rj X S o.s tg iter) ((wQ o.s o.fn n).1 _) (ih.2 X S o body) (f8 h.2);have F2:=Dz (pos:=p) pass o.s.calm ((sound n).rj X S o.s tg iter) ((wQ o.s o.fn n).1 _) (ih.2 X S o body) (f8 h.2);split
      .exact gK F1 (gK (AK _ F1) F2)
      split
      .exact gK F1 (gK (AK _ F1) F2)
      .exact gK F1 F2
     |cons _ _=>cases h.1
    .exact bC
   |Pass p=>exact Du
   |Expr e p=>exact KF n o e
   |_=>exact bC
  .unfold exs;cases st with
   |nil=>exact Ae
   |cons s r=>exact ww (ih.1 X S o _) (ih.2 X S o _)
end
def  Bg:Expr->Option (Str×Str×Str)
 |.Call (.Name f _) [a] [] _=>(match a with|.Attribute o h _=>(cK o).bind λy=>!(f,y,h)|_=>none)
 |_=>none
def vx (q:Bg e=!(f,y,h)):∃p px ap cp,e=.Call (.Name f p) [.Attribute (.Name y px) h ap] [] cp:=by
 unfold Bg at q;split at q
 .split at q
  .let⟨z,h1,h2⟩:=OH q;let⟨p,rfl⟩:=c9 h1;cases h2;exact⟨_,_,_,_,rfl⟩
  .cases q
 .cases q
noncomputable def  noI:InF:=λ_ _=>none
def  KG (S:Sn) (x:Addr) (i:Nat) (fl:Str->Bool) (y g f y2 h:Str) (G:InF):InF:=if y2=y/\fl h=true/\glS S f=true then(match S.G.fn f with
 |some (k,ff)=>if k<=S.k then AV x i g h ff G else noI
 |none=>noI)else noI
def  inx:Nat->Sn->Addr->(Str->Bool)->List Stmt->InF
 |0=>λ_ _ _ _=>noI
 |n+1=>λS x fl st=>match st with
  |[]=>Aj
  |.Assign [.Attribute (.Name y _) f _] e _::r=>if fl f then(match bB S y with
   |some i=>(match Bg e with
    |some (g,y2,h)=>KG S x i fl y f g y2 h (inx n S x fl r)
    |none=>qP x i f (ev n S e) (inx n S x fl r))
   |none=>noI)else noI
  |s::r=>stI (ex n S s) (inx n S x fl r)
def KH (o:TnOk X S) (c:Cls X.K Ca) (hfl:∀f,fl f=true->NoAttr X.K Ca f):∀n st,PIn X Ca x st (inx n S x fl st):=by
 have no:∀st,PIn X Ca x st noI:=λst B O Y dx fd pins s σ H D I ⟨_,_,_,_,q,_⟩=>by cases q
 intro n;induction n with
 |zero=>exactλst=>no st
 |succ n ih=>
  intro st;unfold inx;split
  .exact GY
  .split
   .rename_i h;split
    .rename_i i hi;let⟨h1,h2,h3,_⟩:=bc o.s hi;let⟨a,b⟩:=gN h1;split
     .rename_i g y2 hh hq;let⟨p,px,ap,cp,rfl⟩:=vx hq;unfold KG;split
      .rename_i hc;let⟨rfl,c2,c3⟩:=hc;let⟨ok,gl⟩:=aK o.s c3;let⟨n1,n2,n3⟩:=cH ok;split
       .rename_i k ff hf;split
        .rename_i hk;exact D3 i (o.s.g.fn _ k ff hf) (o.s.room.mono hk) gl n1 (ih _) h3 h2 a b c (hfl _ h) (hfl _ c2)
        .exact no _
       .exact no _
      .exact no _
     .exact GZ i (s_ev n o.s _) (ih _) h3 h2 a b (tj _ _ _ _ _ _) c (hfl _ h)
    .exact no _
   .exact no _
  .exact DI ((Eb n).1 X S o _) (ih _)
mutual
noncomputable def  tgA (S:Sn) (i0:Nat):Nat->Expr->D->Ev->Option Ev
 |0=>λ_ _ _=>none
 |n+1=>λe=>match e with
  |.Name x _=>(match rg S x with|some i=>if i=i0 thenλ_ _=>none else eNm i|none=>λ_ _=>none)
  |.Tuple ts _ _=>if ts.all ax then eTp ts.length (KI S i0 n ts)elseλ_ _=>none
  |_=>λ_ _=>none
noncomputable def  KI (S:Sn) (i0:Nat):Nat->Od->Oc->Ev->Option Ev
 |0=>λ_ _ _=>none
 |n+1=>λes=>match es with
  |[]=>gJ
  |t::ts=>if ax t then aL (tgA S i0 n t) (KI S i0 n ts)elseλ_ _=>none
end
section
variable {X:Cx} {S:Sn} {i0:Nat}
end
section
variable {K:Frag} {B:Bs} {O:Oa} {σ:St} {H H':Hp} {Y:Ev} {i j:Nat} {d:D}
end
section
variable {X:Cx} {e tg iter:Expr} {pos:Pos} {i j:Nat} {x y:Str} {d:D} {ds:Oc} {B:Bs} {O:Oa} {Y:Ev}
end
section
variable {X:Cx} {S:Sn}
end
section
variable {X:Cx} {e2 c:Expr} {i v:Nat} {x y:Str}
end
section
variable {X:Cx} {S:Sn}
end
noncomputable def  cI (i:Int):wp:=λ_=>!(.int i)
noncomputable def  cB (b:Bool):wp:=λ_=>!(.bl b)
noncomputable def  cN:wp:=λ_=>some .non
noncomputable def  cS (x:Str):wp:=λ_=>!(.str x)
noncomputable def  cD (d:D):wp:=λ_=>!d
noncomputable def  cT (n:String):wp:=λ_=>!(.ty n)
def  va (i:Nat):wp:=λY=>bO Y i
def  ngF (a:wp):wp:=λY=>(a Y).bind zW
noncomputable def  af:dl:=λ_=>![]
def  tpF (xs:dl):wp:=λY=>(bx (xs Y)).bind λds=>!(.tup ds)
def  flF (fl:Str->Str->Bool) (m:Str) (o:wp):wp:=λY=>(o Y).bind (qN fl m)
def  slF (a:wp) (lo hi:Vv->Option (Of)):wp:=orO (sM a lo hi) λY=>(xW a lo hi Y).map D.lst
noncomputable def  noP:Vv->Option (Of):=λ_=>!none
noncomputable def  lsF (L:dl):wp:=λY=>(L Y).map D.lst
def  clF (f:ad) (xs:dl):wp:=orO (λY=>(xs Y).bind λds=>valO (f ds)) (lsF noV)
def  biF (f:Oc->Oe) (xs:dl):wp:=orO (λY=>(xs Y).bind f) (lsF noV)
noncomputable def  noD:Oc->Oe:=λ_=>none
def  mkF (C:Str) (g:Oc->Option (List (Str×D))) (xs:dl):wp:=orO (λY=>(xs Y).bind λds=>DG C (g ds)) (lsF noV)
def  meF (o:wp) (xs:dl) (mt:MT) (k:Nat) (m:Str):wp:=λY=>valO (mW o xs mt k m Y)
def  dpF (xs:dl):dl:=λY=>bx (xs Y)
def  l1F (xs:dl):dl:=λY=>(xs Y).bind mN
def  liF (xs:dl):wp:=orO (λY=>(xs Y).bind noD) (lsF (l1F xs))
def  s1F (xs:dl):dl:=λY=>(xs Y).bind bN
def  lrF (xs:dl):dl:=λY=>(xs Y).bind lrD
def  vtF (xs:dl):dl:=λY=>(xs Y).bind rvT
def  tvF (xs:dl):wp:=λY=>(xs Y).bind Hg
def  enF (xs:dl):dl:=λY=>(xs Y).bind wA
def  liG (xs:dl) (L:dl):wp:=orO (λY=>(xs Y).bind noD) (lsF L)
def  trF (a:wp):Fr:=λY=>(a Y).bind uJ
noncomputable def  tQ:Fr:=λ_=>!true
def  jX (sp:dl) (R:wp):dl:=orO sp λY=>(R Y).bind seqD
def  r1F (xs:dl):dl:=λY=>(xs Y).bind oF
def  r2F (xs:dl):dl:=λY=>(xs Y).bind sI
def  zpF (xs:dl):dl:=λY=>(xs Y).bind uM
def  frX (R:wp) (L:dl) (Sp:wp):wp:=orO (λY=>lfO (R Y)) (orO (λY=>fJ (L Y)) Sp)
def  evX (R:wp) (L:dl) (Sp:wp):NZ:=orO (i8 (frX R L Sp)) (orO (pR L) (orO (xY R) (Dt R)))
def  fLs (F:dl):wp:=λY=>(bx (F Y)).bind λds=>!(.lst ds)
def  fTp (F:dl):wp:=λY=>(bx (F Y)).bind λds=>!(.tup ds)
def  fCo (ks:N7) (J:dl) (tg:D->Vv->Option Vv) (t:Fr) (F:wp):wp:=λY=>(ah ks J tg t F Y).bind λds=>!(.lst ds)
def  fCl (f:ad) (xs:dl):wp:=λY=>(xs Y).bind λds=>deepO (f ds)
def  fNo (xs:dl):wp:=λY=>(xs Y).bind noD
def  rtN (i:Nat):Cl:=λY=>(eB Y i).bind λs=>!(.rt s)
noncomputable def  nxE:Cl:=λY=>!(.nx Y)
def  unF (R:wp) (g:D->Ev->Option Ev):Cl:=orO (DA R g) (GQ R g)
def  frF (J:dl) (tg:D->Ev->Option Ev) (F:Cl):Cl:=orO (c6 J tg F) (uU J tg F)
def  frY (i:Nat) (J:dl) (tg:D->Ev->Option Ev) (F:Cl):Cl:=orO (c6 J tg F) (orO (λY=>c6 J tg F (frzS [i] Y)) (uU J tg F))
def  frW (i j:Nat) (J:dl) (tg:D->Ev->Option Ev) (F:Cl):Cl:=orO (c6 J tg F) (orO (λY=>c6 J tg F (frzS [i,j] Y)) (uU J tg F))
noncomputable def  dcN:wp:=λ_=>!(.dct [] [])
def  nw (i:Nat) (k:wp) (g:NZ) (R:wp):Cl:=orO (ja i k g) (Ay i k R)
def  aN (K:Frag) (x:Str) (st:Stmt):Prop:=∃ (f:Addr) (oc:Value) (od an:Option Addr) (osl:Array (N6)) (kV doc pm cdv ct:Value),nsIn K mainGlobals x=!(!(.ref f))/\
 K.lookup f=!⟨oc,od,.func (PySem.W.fnOf x x (bH st) (aF st) (aj st) .none kV doc pm an cdv ct),osl⟩/\PySem.W.codeIn K cdv x=true/\PySem.W.keepIn K (.ref f)=true
def  ka (K:Frag) (C m qual:Str) (st:Stmt):Prop:=∃ (Ca f:Addr) (oc:Value) (od an:Option Addr) (osl:Array (N6)) (kV doc pm cdv ct:Value),nsIn K mainGlobals C=!(!(.ref Ca))/\findIn K (.ref Ca) m=!(!(.ref f))/\PySem.W.isFn K (.ref f)=true/\
 K.lookup f=!⟨oc,od,.func (PySem.W.fnOf m qual (bH st) (aF st) (aj st) .none kV doc pm an cdv ct),osl⟩/\PySem.W.codeIn K cdv qual=true/\PySem.W.keepIn K (.ref f)=true
structure TCls (K:Frag) (C:Str):Prop where
 ex:∃Ca:Addr,nsIn K mainGlobals C=!(!(.ref Ca))/\Cls K Ca/\PySem.W.makesIn K Ca=true/\PySem.W.keepIn K (.ref Ca)=true
section
variable {P:Program} {w:World} {K:Frag} {mg:Str->N6} {base:Heap}
abbrev Bh (N:N8) (st:Stmt) (k:Nat) (G:Gb):Sn:=⟨N,(aj st).names,k,G⟩
def tD {G:Gb} (g:GbOk P w K mg base G) {N ps:N8} {st:Stmt} {k:Nat} {qual:Str} {f:Addr} (S:FnScope N ps (aj st)) (cdv:Value) (A:Around) (outer:List Env) (s:Shared) (H:Hp) (E:XK) (hr:Room k (A.deeper (envOfC qual (aj st) s.heap.objs.size f cdv))):
  TnOk (mB CX0 P w K mg base N qual (aj st) f cdv A outer s H E).nox (Bh N st k G) where
 s:=⟨g,rfl,S.nd,rfl,hr,λ_ h=>h,λ_ h=>h,λ_ h=>.inr h,λ_ h=>h⟩
 fn:=λ_=>rfl
 nox:=rfl
 nm:=rfl
def  dfn (n k:Nat) (N ps:N8) (st:Stmt) (G:Gb):ad:=aC ps.length N.length (exs n (Bh N st k G) (aF st))
def  bo (x:Str) (st:Stmt) (ps:N8):Prop:=∀ (qual:Str) (kV doc pm:Value) (an:Option Addr) (cdv ct:Value) (us:N5),us.length=ps.length->bindArgs (PySem.W.fnOf x qual (bH st) (aF st) (aj st) .none kV doc pm an cdv ct) ⟨us,[]⟩=pure (ps.zip us)
def KJ (g:GbOk P w K mg base G) (KX:K.In h) (hN:h.Ns mainGlobals mg) {st} (n k:Nat) (S:FnScope N ps (aj st)) (b:bo x st ps) (t:aN K x st):Df P w K mg base x (k+1) (dfn n k N ps st G):=by
 let⟨f,oc,od,an,osl,kV,doc,pm,cdv,ct,h1,h2,h3,h4⟩:=t;have Fn:=mE h2 h3 h4;refine⟨f,_,ps,PySem.W.mg_of KX hN h1,h4,Fn.binds λkV doc pm an cdv ct us hl=>b x kV doc pm an cdv ct us hl,GU Fn S λcdv A outer s H E hr=>?_⟩;exact(Eb n).2 _ _ (tD g S cdv A outer s H E hr) _
def Bi (g:GbOk P w K mg base G) {st} (n k:Nat) (S:FnScope N ps (aj st)) (b:bo m st ps) (c:TCls K C) (t:ka K C m qual st):Mf P w K mg base C m (k+1) (dfn n k N ps st G):=by
 let⟨Ca,f,oc,od,an,osl,kV,doc,pm,cdv,ct,h0,hf,hi,h2,h3,h4⟩:=t;let⟨Cb,e0,cl,_,_⟩:=c.ex;rw[h0]at e0;cases e0;have Fn:=mE h2 h3 h4;refine⟨Ca,f,_,ps,h0,cl,⟨hf,hi,h4⟩,Fn.binds λkV doc pm an cdv ct us hl=>b qual kV doc pm an cdv ct us hl,GU Fn S λcdv A outer s H E hr=>?_⟩;exact(Eb n).2 _ _ (tD g S cdv A outer s H E hr) _
def Fw (g:GbOk P w K mg base G) (KX:K.In h) (hN:h.Ns mainGlobals mg) {st} (n k:Nat) (fl:Str->Bool) (S:FnScope N ps (aj st)) (b:bo "__init__" st ps) (c:TCls K C) (t:ka K C "__init__" qual st) (hfl:∀f,fl f=true->∀Ca,nsIn K mainGlobals C=!(!(.ref Ca))->NoAttr K Ca f) (hg:∀ds r,gg ds=!r->∀y,qQ ps.length N.length (λy=>inx n (Bh N st k G) y fl (aF st)) y ds=!r):Mkf P w K mg base C (k+1) gg:=by
 let⟨Ca,f,oc,od,an,osl,kV,doc,pm,cdv,ct,h0,hf,hi,h2,h3,h4⟩:=t;let⟨Cb,e0,cl,mk,kp⟩:=c.ex;rw[h0]at e0;cases e0;have Fn:=mE h2 h3 h4;refine⟨Ca,f,_,ps,PySem.W.mg_of KX hN h0,h0,⟨mk,hf,hi,kp⟩,Fn.binds λkV doc pm an cdv ct us hl=>b qual kV doc pm an cdv ct us hl,MB Fn S hg λy cdv A outer s H E hr=>?_⟩;exact KH (tD g S cdv A outer s H E hr) cl (λf q=>hfl f q Ca h0) n _
end
def  spL (K:Frag):Sp:=λvs H Q _=>∃ (a:Addr) (ns:N9),vs=[.ref a]/\SqL K H a (ns.map V.int)/\ns.length<=63/\∀H',Q (.bl true) H'
def wW {K}:∀ (ns:N9),IsL K H (ns.map D.int) (ns.map V.int)
 |[]=>rfl
 |n::ns=>⟨_,_,rfl,rfl,wW ns⟩
def HF {K} (F:FnOk P w K mg base CX0 k a fd ps (spC K f)) (hf:∀ns:N9,ns.length<=63->valO (f [.lst (ns.map D.int)])=!(.bl true)):
  FnOk P w K mg base CX0 k a fd ps (spL K):=F.imp λvs H Q E ⟨b,ns,e,h,hl,q⟩=>by
 let⟨⟨c,d⟩,e1,e2⟩:=OH (hf ns hl)
 cases e2
 refine⟨noO,[.lst _],_,λ_ h=>(nomatch h),?_,e1,λv H' r=>?_⟩
 .rw[e,qI];exact⟨_,[],rfl,⟨b,_,rfl,h,wW ns⟩,rfl⟩
 .let⟨O',A,_,_,_,_,_,h6⟩:=r;have hv:v=.bl true:=by
   cases c with
   |sh=>exact h6.2
   |top=>let⟨_,_,_,z,_⟩:=h6;cases z
   |deep=>exact h6.1
  rw[hv];exact q H'
def walkL {l:PySem.W.OpenLaw} {K:Params->Frag} (hn:l.most=some 63) (hdf:d.params.defaults=[]) (hr:Room k callerA) (hY:∀ (w:World) (h:Heap),YP w h->(K w.params).In h) (hT:∀ (w:World) (h:Heap),YP w h->qC (K w.params) h) (F:∀ (w:World) (mg:Str->N6) (fa:Addr) (h:Heap),(K w.params).In h->h.Ns mainGlobals mg->mg d.name=!(.ref fa)->
   ∃fd:FuncData,(∀ (s:Shared) (u:Value),BindsTo s fd ⟨[u],[]⟩ [("script",u)])/\∀base:Heap,(K w.params).In base->base.Ns mainGlobals mg->FnOk l.prog w (K w.params) mg base CX0 k fa fd ["script"] (spL (K w.params))):
  PySem.W.WalkO q loose XP YP l.row.toRowW d [] (λf vs=>PySem.call f vs):=
 L2.walk_of hn (!5) hdf hr hY hT F (λ_ _ a ns hl hS=>⟨a,ns,rfl,hS,hl,λ_=>rfl⟩) λ_ _ _ _ _ z=>z
noncomputable def  addF (G:Gb) (x:Str) (k:Nat) (f:ad):Gb:={G with fn:=λy=>if y=x then !(k,f)else G.fn y}
def  addM (G:Gb) (m C:Str) (k:Nat) (f:ad):Gb:={G with mt:=λa b=>if a=m/\b=C then !(k,f)else G.mt a b}
def  addI (G:Gb) (C:Str) (k:Nat) (g:Oc->Option (List (Str×D))):Gb:={G with ini:=λy=>if y=C then !(k,g)else G.ini y}
section
variable {P:Program} {w:World} {K:Frag} {mg:Str->N6} {base:Heap} {G:Gb}
def GbOk.addF (g:GbOk P w K mg base G) (d:Df P w K mg base x k f):GbOk P w K mg base (addF G x k f):=⟨λy j h e=>by
 have e':(if y=x then !(k,f)else G.fn y)=!(j,h):=e;split at e'
 .rename_i z;cases e';rw[z];exact d
 .exact g.fn y j h e',g.cn,g.no,g.fl,g.mt,g.ini⟩
def GbOk.addM (g:GbOk P w K mg base G) (d:Mf P w K mg base C m k f):GbOk P w K mg base (addM G m C k f):=⟨g.fn,g.cn,g.no,g.fl,λa b j h e=>by
 have e':(if a=m/\b=C then !(k,f)else G.mt a b)=!(j,h):=e;split at e'
 .rename_i z;cases e';rw[z.1,z.2];exact d
 .exact g.mt a b j h e',g.ini⟩
def GbOk.addI (g:GbOk P w K mg base G) (d:Mkf P w K mg base C k gg):GbOk P w K mg base (addI G C k gg):=⟨g.fn,g.cn,g.no,g.fl,g.mt,λy j h e=>by
 have e':(if y=C then !(k,gg)else G.ini y)=!(j,h):=e;split at e'
 .rename_i z;cases e';rw[z];exact d
 .exact g.ini y j h e'⟩
end
def evX_lf {R L Sp} (h:R (vw Y)=!d) (f:lfD d=true):evX R L Sp Y=!((.deep,d),Y):=by
 unfold evX orO i8 frX orO lfO;simp[h,f]
def evX_lfs {R L Sp} (h:R (vw Y)=!d) (f:lfD d=false) (hl:L (vw Y)=!ds) (fl:lfL ds=true):evX R L Sp Y=!((.deep,.lst ds),Y):=by
 unfold evX orO i8 frX orO lfO fJ;simp[h,hl,f,fl]
def evX_call {R L Sp} (h:R (vw Y)=!d) (f:lfD d=false) (hl:L (vw Y)=none) (hs:Sp (vw Y)=!e):evX R L Sp Y=!((.deep,e),Y):=by
 unfold evX orO i8 frX orO lfO fJ;simp[h,hl,f,hs]
def evX_sh {R L Sp} (h:R (vw Y)=!d) (f:lfD d=false) (hl:L (vw Y)=none) (hs:Sp (vw Y)=none) (hl2:L (shv Y)=none) (h2:R (shv Y)=!d):evX R L Sp Y=!((.sh,d),Y):=by
 unfold evX orO i8 pR xY frX orO lfO fJ;grind
def am (h:F Y=!(.nx Y')):ac F G Y=G Y':=by unfold ac;rw[h];rfl
def seqF_rt (h:F Y=!(.rt s)):ac F G Y=!(.rt s):=by unfold ac;rw[h];rfl
def bK (h:g Y=!(s,Y')):ao i g Y=!(.nx (Y'.set i (!s))):=by unfold ao;rw[h];rfl
def aY (h:g Y=!(s,Y')):bW g Y=!(.rt s):=by unfold bW;rw[h];rfl
def ifS_t (h:c (vw Y)=!true):ifS c F G Y=F Y:=by unfold ifS;rw[h];rfl
def da (h:c (vw Y)=!false):ifS c F G Y=G Y:=by unfold ifS;rw[h];rfl
def jA {step}:∀ (ds:Oc) (I:Nat->Ev->Prop) (Y:Ev),I 0 Y->(∀ (i:Nat) (d:D) (Y:Ev),ds[i]?=!d->I i Y->∃Y',step d Y=!(.nx Y')/\I (i+1) Y')->∃Y',b8 step ds Y=!(.nx Y')/\I ds.length Y'
 |[],I,Y,h0,_=>⟨Y,rfl,h0⟩
 |d::ds,I,Y,h0,hs=>by
  let⟨Y1,e1,i1⟩:=hs 0 d Y rfl h0;let⟨Y2,e2,i2⟩:=jA ds (λi=>I (i+1)) Y1 i1 λi d' Y' h hi=>hs (i+1) d' Y' (by simpa using h) hi;refine⟨Y2,?_,i2⟩;unfold b8;rw[e1];exact e2
def jB (I:Nat->Ev->Prop) (hJ:J (shv Y)=!ds) (h0:I 0 Y) (hs:∀ (i:Nat) (d:D) (Y:Ev),ds[i]?=!d->I i Y->∃Y',(tg d Y).bind F=!(.nx Y')/\I (i+1) Y'):
  ∃Y',frF J tg F Y=!(.nx Y')/\I ds.length Y':=by
 let⟨Y',e,i⟩:=jA (step:=iF tg F) ds I Y h0 hs
 refine⟨Y',?_,i⟩
 unfold frF orO c6
 grind
section
variable {Y:Vv} {a b c:wp} {xs:dl} {i:Int} {n:Nat}
@[simp] theorem cI_a:cI i Y=!(.int i):=rfl
@[simp] theorem NW {b}:cB b Y=!(.bl b):=rfl
@[simp] theorem MV:cN Y=some .non:=rfl
@[simp] theorem cS_a {x:Str}:cS x Y=!(.str x):=rfl
@[simp] theorem NX:cD d Y=!d:=rfl
@[simp] theorem KL {n}:cT n Y=!(.ty n):=rfl
@[simp] theorem NI:(noV Y:Option α)=none:=rfl
@[simp] theorem va_a:va n Y=bO Y n:=rfl
@[simp] theorem shAt_0 {d:Oe} {r:Vv}:bO (d::r) 0=d:=by cases d<;>rfl
@[simp] theorem shAt_s {d:Oe} {r:Vv} {n:Nat}:bO (d::r) (n+1)=bO r n:=by unfold bO;simp
@[simp] theorem shAt_1 {d e:Oe} {r:Vv}:bO (d::e::r) 1=e:=by cases e<;>rfl
@[simp] theorem bin2_a {g}:aa g a b Y=(a Y).bind λx=>(b Y).bind λy=>g x y:=rfl
@[simp] theorem NJ:ngF a Y=(a Y).bind zW:=rfl
@[simp] theorem nilX_a:af Y=![]:=rfl
@[simp] theorem consX_a:ab a xs Y=(a Y).bind λd=>(xs Y).bind λr=>!(d::r):=rfl
@[simp] theorem jC:tpF xs Y=(bx (xs Y)).bind λds=>!(.tup ds):=rfl
@[simp] theorem Fy:flF fl m a Y=(a Y).bind (qN fl m):=rfl
@[simp] theorem NK:noP Y=!none:=rfl
@[simp] theorem LQ:c4 a Y=(a Y).bind λd=>(lH d).bind λi=>!(!i):=rfl
@[simp] theorem lsF_a {L}:lsF L Y=(L Y).map D.lst:=rfl
def ny {f g:α->Option β} (h:g x=none):orO f g x=f x:=by
 unfold orO;cases f x<;>simp[h]
@[simp] theorem clF_a {f}:clF f xs Y=(xs Y).bind λds=>valO (f ds):=ny rfl
@[simp] theorem biF_a {f}:biF f xs Y=(xs Y).bind f:=ny rfl
@[simp] theorem Fz:mkF C g xs Y=(xs Y).bind λds=>DG C (g ds):=ny rfl
@[simp] theorem NM {mt k m}:meF a xs mt k m Y=valO ((a Y).bind λd=>(xs Y).bind λas=>lm mt k m d as):=rfl
@[simp] theorem dpF_a:dpF xs Y=bx (xs Y):=rfl
@[simp] theorem FA:l1F xs Y=(xs Y).bind mN:=rfl
@[simp] theorem tE:liF xs Y=((xs Y).bind mN).map D.lst:=by
 unfold liF orO;have:((xs Y).bind noD)=none:=by cases xs Y<;>rfl
 simp[this]
@[simp] theorem trF_a:trF a Y=(a Y).bind uJ:=rfl
@[simp] theorem tQ_a:tQ Y=!true:=rfl
@[simp] theorem fCl_a {f}:fCl f xs Y=(xs Y).bind λds=>deepO (f ds):=rfl
@[simp] theorem NO:fNo xs Y=none:=by unfold fNo noD;cases xs Y<;>rfl
@[simp] theorem KM:fLs F Y=(bx (F Y)).bind λds=>!(.lst ds):=rfl
@[simp] theorem Bj:fTp F Y=(bx (F Y)).bind λds=>!(.tup ds):=rfl
@[simp] theorem aR:jX noV R Y=(R Y).bind seqD:=rfl
def fR (h:(xs Y).bind oF=!ds):jX (r1F xs) R Y=!ds:=by
 unfold jX orO r1F;simp[h]
def KN (h:(xs Y).bind sI=!ds):jX (r2F xs) R Y=!ds:=by
 unfold jX orO r2F;simp[h]
def KO (h:(xs Y).bind uM=!ds):jX (zpF xs) R Y=!ds:=by
 unfold jX orO zpF;simp[h]
@[simp] theorem HG:oE a b Y=(a Y).bind λx=>x.asB.bind λc=>if c=true then b Y else !(.bl false):=rfl
@[simp] theorem NP:orF a b Y=(a Y).bind λx=>x.asB.bind λc=>if c=true then !(.bl true)else b Y:=rfl
@[simp] theorem MW:Db a Y=(a Y).bind λx=>x.asB.bind λc=>!(.bl (not c)):=rfl
@[simp] theorem andQ_a {p q:Fr}:Gq p q Y=(p Y).bind λc=>if c=true then q Y else !false:=rfl
@[simp] theorem pV:orQ p q Y=(p Y).bind λc=>if c=true then !true else q Y:=rfl
@[simp] theorem notQ_a {p:Fr}:cC p Y=(p Y).map (not ·):=rfl
@[simp] theorem Bk:ifF p a b Y=(p Y).bind λc=>if c=true then a Y else b Y:=rfl
@[simp] theorem testB_a:ag a Y=(a Y).bind D.asB:=rfl
@[simp] theorem KP:df g g' a b c Y=(a Y).bind λx=>(b Y).bind λy=>(g x y).bind λz=>z.asB.bind λk=>if k=true then(c Y).bind λw=>g' y w else !(.bl false):=rfl
end
@[simp] theorem asB_bl (b:Bool):D.asB (.bl b)=!b:=rfl
@[simp] theorem valO_some (s:Sl):valO (!s)=!s.2:=rfl
@[simp] theorem vz (d:D):deepO (!(.deep,d))=!d:=rfl
@[simp] theorem addD_ii (i j:Int):aE (.int i) (.int j)=!(.int (i+j)):=rfl
@[simp] theorem subD_ii (i j:Int):bU (.int i) (.int j)=!(.int (i-j)):=rfl
@[simp] theorem MX (i j:Int):ltD (.int i) (.int j)=!(.bl (decide (i<j))):=rfl
@[simp] theorem HH (i j:Int):leD (.int i) (.int j)=!(.bl (decide (i<=j))):=rfl
@[simp] theorem vA (i j:Int):gtD (.int i) (.int j)=!(.bl (decide (j<i))):=rfl
@[simp] theorem MY (i j:Int):geD (.int i) (.int j)=!(.bl (decide (j<=i))):=rfl
@[simp] theorem MZ (i:Int):zW (.int i)=!(.int (-i)):=rfl
@[simp] theorem Bl (i:Int):lH (.int i)=!i:=rfl
@[simp] theorem rm (ds:Oc):seqD (.lst ds)=!ds:=rfl
@[simp] theorem M0 (ds:Oc):seqD (.tup ds)=!ds:=rfl
@[simp] theorem bX (d:D):dg [d]=(seqD d).bind λds=>!(.int ds.length):=rfl
@[simp] theorem LR (d:D):mN [d]=seqD d:=rfl
@[simp] theorem KQ (d:D):dh [d]=(seqD d).bind λds=>!(.tup ds):=rfl
@[simp] theorem M1 (i j:Int):My [.int i,.int j]=!(.int (if j>i then j else i)):=rfl
@[simp] theorem HI (i j:Int):Dn [.int i,.int j]=!(.int (if j<i then j else i)):=rfl
@[simp] theorem truD_bl (b:Bool):uJ (.bl b)=!b:=rfl
def wX (h:CMul i j):az (.int i) (.int j)=!(.int (i*j)):=by unfold az;simp[h]
def nz (h:-18446744073709551616<i) (h2:i<18446744073709551616):az (.int i) (.int j)=!(.int (i*j)):=wX (.inl ⟨by omega,by omega⟩)
def HJ (h:-18446744073709551616<j) (h2:j<18446744073709551616):az (.int i) (.int j)=!(.int (i*j)):=wX (.inr ⟨by omega,by omega⟩)
def Bm (h:0<j) (h2:j.natAbs.log2<9000):bw (.int i) (.int j)=!(.int (i/j)):=by unfold bw;exact if_pos ⟨h,h2⟩
def aS (h:0<j) (h2:j<1073741824):bw (.int i) (.int j)=!(.int (i/j)):=Bm h (Nat.lt_trans ((Nat.log2_lt (!1)).mpr (show j.natAbs<2^30 by omega)) (!5))
def bf (h:0<j):aP (.int i) (.int j)=!(.int (i%j)):=by unfold aP;simp[h]
@[simp] theorem LS (i:Int):lfD (.int i)=true:=rfl
@[simp] theorem M2 (b:Bool):lfD (.bl b)=true:=rfl
@[simp] theorem LU (x:Str):lfD (.str x)=true:=rfl
@[simp] theorem LV:lfD .non=true:=rfl
@[simp] theorem rp (ds:Oc):lfD (.lst ds)=false:=rfl
@[simp] theorem LW (ds:Oc):lfD (.tup ds)=lfL ds:=rfl
@[simp] theorem LX:lfL []=true:=rfl
@[simp] theorem Bn (d:D) (ds:Oc):lfL (d::ds)=(lfD d&&lfL ds):=rfl
def br:∀ {ds:Oc},(∀d∈ds,lfD d=true)->lfL ds=true
 |[],_=>rfl
 |d::ds,h=>by simp[h d mem_cons_self,br λe he=>h e (mem_cons_of_mem _ he)]
@[simp] theorem Jc:bx none=none:=rfl
def dE (h:ds.length<big):bx (!ds)=!ds:=by unfold bx;simp[h]
@[simp] theorem HK:bx (![])=![]:=dE (!5)
@[simp] theorem capL_1 (a:D):bx (![a])=![a]:=dE (show 1<big by decide)
@[simp] theorem capL_2 (a b:D):bx (![a,b])=![a,b]:=dE (show 2<big by decide)
@[simp] theorem M3 (a b c d e:D):bx (![a,b,c,d,e])=![a,b,c,d,e]:=dE (show 5<big by decide)
@[simp] theorem M4 (a b c d e f g h:D):bx (![a,b,c,d,e,f,g,h])=![a,b,c,d,e,f,g,h]:=dE (show 8<big by decide)
@[simp] theorem FC (d c:D):dD [d,c]=(bV d).bind λT=>(mP c).bind λns=>!(.bl (ns.any (isI T))):=rfl
@[simp] theorem LY:mP (.ty "int")=!["int"]:=by rfl
@[simp] theorem KR:mP (.ty "bool")=!["bool"]:=by rfl
@[simp] theorem LZ:mP (.ty "str")=!["str"]:=by rfl
@[simp] theorem KS:mP (.ty "list")=!["list"]:=by rfl
@[simp] theorem Jd:mP (.ty "tuple")=!["tuple"]:=by rfl
@[simp] theorem Bo:mP (.tup [.ty "list",.ty "tuple"])=!["list","tuple"]:=by rfl
@[simp] theorem M5 (i:Int):bV (.int i)=some "int":=rfl
@[simp] theorem NQ (i:Bool):bV (.bl i)=some "bool":=rfl
@[simp] theorem M6 (i:Str):bV (.str i)=some "str":=rfl
@[simp] theorem M7 (i:Oc):bV (.tup i)=some "tuple":=rfl
@[simp] theorem M8 (i:Oc):bV (.lst i)=some "list":=rfl
@[simp] theorem M9:isI "int" "int"=true:=by decide
@[simp] theorem Na:isI "int" "bool"=false:=by decide
@[simp] theorem Nb:isI "bool" "bool"=true:=by decide
@[simp] theorem Nc:isI "bool" "int"=true:=by decide
@[simp] theorem Nd:isI "tuple" "list"=false:=by decide
@[simp] theorem Nf:isI "tuple" "tuple"=true:=by decide
@[simp] theorem Bp:isI "list" "list"=true:=by decide
@[simp] theorem Ng:isI "list" "tuple"=false:=by decide
@[simp] theorem Nh:isI "str" "str"=true:=by decide
@[simp] theorem tF (neg:Bool) (i j:Int):aD neg (.int i) (.int j)=!(.bl (if neg then not (decide (i=j))else decide (i=j))):=by
 unfold aD jt;have:decide (toV (.int i)=toV (.int j))=decide (i=j):=by
  show decide (V.int i=V.int j)=_;by_cases h:i=j<;>simp[h]
 rw[this];rfl
@[simp] theorem FD (neg:Bool) (i j:Str):aD neg (.str i) (.str j)=!(.bl (if neg then not (decide (i=j))else decide (i=j))):=by
 unfold aD jt;have:decide (toV (.str i)=toV (.str j))=decide (i=j):=by
  show decide (V.str i=V.str j)=_;by_cases h:i=j<;>simp[h]
 rw[this];rfl
@[simp] theorem NR (neg:Bool) (i j:Bool):aD neg (.bl i) (.bl j)=!(.bl (if neg then not (decide (i=j))else decide (i=j))):=by
 unfold aD jt;have:decide (toV (.bl i)=toV (.bl j))=decide (i=j):=by
  show decide (V.bl i=V.bl j)=_;by_cases h:i=j<;>simp[h]
 rw[this];rfl
@[simp] theorem Ni (ds:Oc) (i:Int):ixD (.lst ds) (.int i)=atI ds i:=rfl
@[simp] theorem NY (ds:Oc) (i:Int):ixD (.tup ds) (.int i)=atI ds i:=rfl
def kb {d:D} (h:0<=i) (h2:ds[i.toNat]?=!d):atI ds i=!d:=by
 have hl:=(On.mp h2).1;unfold atI ixN;grind
@[simp] theorem ly (d:D) (ds:Oc):atI (d::ds) 0=!d:=kb (!1) rfl
@[simp] theorem pW (c d:D) (ds:Oc):atI (c::d::ds) 1=!d:=kb (!1) rfl
@[simp] theorem vw_nil:vw []=[]:=rfl
@[simp] theorem vw_some (s:Sl) (Y:Ev):vw (some s::Y)=some s.2::vw Y:=rfl
@[simp] theorem vw_none (Y:Ev):vw (none::Y)=none::vw Y:=rfl
@[simp] theorem L0:shv []=[]:=rfl
@[simp] theorem Nj (d:D) (Y:Ev):shv (some (.sh,d)::Y)=some d::shv Y:=rfl
@[simp] theorem KU (Y:Ev):shv (none::Y)=none::shv Y:=rfl
@[simp] theorem KW (d:D) (Y:Ev):shv (some (.deep,d)::Y)=(if lfD d=true then !d else none)::shv Y:=rfl
@[simp] theorem L3 (d:D) (Y:Ev):shv (some (.top,d)::Y)=(if lfD d=true then !d else none)::shv Y:=rfl
@[simp] theorem wipe_nil {α:Type} (σ:List (Option α)):eW [] σ=σ:=rfl
@[simp] theorem wipe_cons {α:Type} (k:Nat) (ks:N7) (σ:List (Option α)):eW (k::ks) σ=eW ks (σ.set k none):=rfl
@[simp] theorem gNm_a (i:Nat) (d:D) (Y:Vv):gNm i d Y=!(Y.set i (!d)):=rfl
@[simp] theorem FE (n:Nat) (gs) (ds:Oc) (Y:Vv):gTp n gs (.tup ds) Y=if ds.length=n then gs ds Y else none:=rfl
@[simp] theorem tH (g gs) (d:D) (ds:Oc) (Y:Vv):aI g gs (d::ds) Y=(g d Y).bind λY1=>gs ds Y1:=rfl
@[simp] theorem wY (Y:Vv):eI [] Y=!Y:=rfl
@[simp] theorem NS (i:Nat) (d:D) (Y:Ev):eNm i d Y=!(Y.set i (!(.sh,d))):=rfl
@[simp] theorem NT (n:Nat) (gs) (ds:Oc) (Y:Ev):eTp n gs (.tup ds) Y=if ds.length=n then gs ds Y else none:=rfl
@[simp] theorem L4 (g gs) (d:D) (ds:Oc) (Y:Ev):aL g gs (d::ds) Y=(g d Y).bind λY1=>gs ds Y1:=rfl
@[simp] theorem Nk (Y:Ev):gJ [] Y=!Y:=rfl
@[simp] theorem stepF_a (g ft fe) (Y:Vv) (d:D):lh g ft fe Y d=(g d Y).bind λY1=>(ft Y1).bind λc=>if c=true then(fe Y1).bind λy=>!(!y)else !none:=rfl
def al (hl:ds.length=n) (h:F (av m ds)=!(.rt s)):aC n m F ds=!s:=by
 unfold aC;rw[if_pos hl,h];rfl
def tI (hl:ds.length=n) (h:F (av m ds)=!(.nx Y)):aC n m F ds=!(.deep,.non):=by
 unfold aC;rw[if_pos hl,h];rfl
@[simp] theorem NU (Y:Ev):nxE Y=!(.nx Y):=rfl
def nB {β:Type} {step} {mk out}:∀ (xs:List β),(∀x∈xs,step (mk x)=!(!(out x)))->iM step (xs.map mk)=!(xs.map out)
 |[],_=>rfl
 |x::xs,h=>by
  rw[List.map_cons];unfold iM;rw[h x mem_cons_self,nB xs λe he=>h e (mem_cons_of_mem _ he)];rfl
def aw {β:Type} {Y:Vv} {xs:List β} {mk out} (hJ:J Y=!(xs.map mk)) (h:∀x∈xs,lh g ft fe (eW ks Y) (mk x)=!(!(out x))) (hl:xs.length<big):ah ks J g ft fe Y=!(xs.map out):=by
 unfold ah;rw[hJ];simp only[Option.bind_some];rw[nB xs h];unfold bx;simp[hl]
def iP {β:Type} {step} {mk out} {p:β->Bool}:∀ (xs:List β),(∀x∈xs,step (mk x)=!(if p x then !(out x)else none))->iM step (xs.map mk)=!((xs.filter p).map out)
 |[],_=>rfl
 |x::xs,h=>by
  rw[List.map_cons];unfold iM;rw[h x mem_cons_self,iP xs λe he=>h e (mem_cons_of_mem _ he)];cases hp:p x<;>simp[hp]
def iQ {β:Type} {Y:Vv} {xs:List β} {mk out} {p:β->Bool} (hJ:J Y=!(xs.map mk)) (h:∀x∈xs,lh g ft fe (eW ks Y) (mk x)=!(if p x then !(out x)else none)) (hl:xs.length<big):ah ks J g ft fe Y=!((xs.filter p).map out):=by
 unfold ah;rw[hJ];simp only[Option.bind_some];rw[iP xs h];unfold bx;grind
def tK:∀bs:List Bool,zI (bs.map D.bl)=!bs
 |[]=>rfl
 |b::bs=>by
  rw[List.map_cons];unfold zI;rw[tK bs];rfl
def fS {β:Type} (xs:List β) (p:β->Bool):mO [.lst (xs.map λx=>.bl (p x))]=!(.bl (xs.all p)):=by
 have e:xs.map (λx=>D.bl (p x))=(xs.map p).map D.bl:=by rw[List.map_map];rfl
 rw[e];unfold mO un1;simp only[jp,Option.bind_some];rw[tK];simp[List.all_map];rfl
def HL (h:-1000000<j) (h2:j<1000000):inR j:=by
 exact⟨by omega,by omega⟩
def Ec (hj:inR j):oF [.int j]=!(jq 0 j.toNat):=by
 unfold oF un1;simp only[Bl,Option.bind_some];rw[if_pos hj]
def Ed (hi:inR i) (hj:inR j):sI [.int i,.int j]=!(jq i (j-i).toNat):=by
 unfold sI un2;simp only[Bl,Option.bind_some];rw[if_pos ⟨hi,hj⟩]
def mj {n:Nat} (h:n<1000000):inR (n:Int):=HL (!1) (!1)
def Bq:jq 0 n=(!16).map λ(i:Nat)=>D.int (i:Int):=by simp[jq]
def a6 {n:Nat} (h:n<1000000):oF [.int (n:Int)]=!((!16).map λ(i:Nat)=>D.int (i:Int)):=by
 rw[Ec (mj h),Int.toNat_natCast,Bq]
def Br {a b:Nat} (h:a<1000000) (h2:b<1000000):sI [.int (a:Int),.int (b:Int)]=!((List.range (b-a)).map λ(i:Nat)=>D.int ((a+i:Nat):Int)):=by
 rw[Ed (mj h) (mj h2)];have:((b:Int)-(a:Int)).toNat=b-a:=by omega
 rw[this];rfl
def Ee {β:Type} {xs:List β} {mk:β->D} {i:Int} (h:0<=i) (h2:i<xs.length):atI (xs.map mk) i=!(mk (xs[i.toNat]'(!1))):=kb h (by
 have:i.toNat<xs.length:=by omega
 simp[this])
def aM {β:Type} {xs:List β} {mk:β->D} {i:Nat} {x} (h:xs[i]?=!x):atI (xs.map mk) (i:Int)=!(mk x):=by
 exact kb (!1) (by simp[h])
def Bt (h1:seqD a=!xs) (h2:seqD b=!ys):uM [a,b]=!(i7 xs ys):=by
 unfold uM un2;simp[h1,h2]
def vB {β γ:Type} {f} {g} (xs:List β) (ys:List γ):i7 (xs.map f) (ys.map g)=(xs.zip ys).map λp=>.tup [f p.1,g p.2]:=by
 unfold i7;rw[List.zip_map,List.map_map];rfl
def fT (h0:ownL Y i=!(c0,ds0)) (h:g Y=!((.deep,d),Y')) (ho:ownL Y' i=!(.deep,ds)) (hl:ds.length+1<big):i9 i g Y=!(.nx (Y'.set i (!(.deep,.lst (ds++[d]))))):=by
 unfold i9;rw[h0];simp only[Option.bind_some,h,ho];rw[if_pos hl];rfl
def pX (h0:ownL Y i=!(c0,ds0)) (h:g Y=!((.deep,d),Y')) (ho:ownL Y' i=!(.deep,ds)) (hl:ds.length+1<big):yz i k g R Y=!(.nx (Y'.set i (!(.deep,.lst (ds++[d]))))):=by
 unfold yz orO;rw[fT h0 h ho hl]
def tL {k:Int} (h:g Y=!((.deep,d),Y')) (ho:ownL Y' i=!(.deep,ds)) (hk:fk (vw Y')=!(.int k)) (h0:0<=k) (hl:k<ds.length):ja i fk g Y=!(.nx (Y'.set i (!(.deep,.lst (ds.set k.toNat d))))):=by
 unfold ja;rw[h];simp only[Option.bind_some,ho,hk];have:ixN ds.length k=!k.toNat:=by unfold ixN;rw[if_pos h0,if_pos hl]
 rw[this];rfl
def  tM:Cl:=(ac (bW (evX (oE (biF dD (ab (va 0) (ab (cT "int") af))) (oE (Db (biF dD (ab (va 0) (ab (cT "bool") af)))) (df leD leD (va 1) (va 0) (va 2)))) noV noV)) nxE)
def  lA (ay:ad):Cl:=(ac (ifS (orQ (cC (trF (biF dD (ab (va 0) (ab (cT "tuple") af))))) (ag (aa (aD true) (biF dg (ab (va 0) af)) (cI 2)))) (ac (bW (evX (cB false) noV noV)) nxE) nxE) (ac (bW (evX (oE (aa inD (aa ixD (va 0) (cI 0)) (cD (.tup [(.str "queue"),(.str "pile")]))) (clF ay (ab (aa ixD (va 0) (cI 1)) (ab (cI 0) (ab (cD (.int 9)) af))))) noV noV)) nxE))
def  pY (dc:ad):Cl:=(ac (ifS (orQ (cC (trF (biF dD (ab (va 0) (ab (tpF (ab (cT "list") (ab (cT "tuple") af))) af))))) (cC (ag (df leD leD (cI 1) (biF dg (ab (va 0) af)) (cD (.int 6)))))) (ac (bW (evX (cB false) noV noV)) nxE) nxE) (ac (bW (evX (biF mO (ab (lsF (ah [1] (jX noV (va 0)) (gNm 1) tQ (clF dc (ab (va 1) af)))) af)) noV (fNo (ab (lsF (ah [1] (jX noV (va 0)) (gNm 1) tQ (clF dc (ab (va 1) af)))) af)))) nxE))
def  vC:Cl:=(ac (ao 1 (evX (cI 1) noV noV)) (ac (frF (jX noV (va 0)) (eNm 2) (ac (ao 1 (evX (aa az (va 1) (biF dg (ab (va 2) af))) noV noV)) nxE)) (ac (rtN 1) nxE)))
def  rA (bE:ad) (iB:ad):Cl:=(ac (ifS (orQ (cC (trF (biF dD (ab (va 0) (ab (tpF (ab (cT "list") (ab (cT "tuple") af))) af))))) (ag (aa gtD (biF dg (ab (va 0) af)) (cD (.int 6))))) (ac (bW (evX (cB false) noV noV)) nxE) nxE) (ac (bW (evX (oE (biF mO (ab (lsF (ah [1] (jX noV (va 0)) (gNm 1) tQ (clF iB (ab (va 1) af)))) af)) (aa leD (clF bE (ab (va 0) af)) (cD (.int 1000)))) noV noV)) nxE))
def  vD (cg:ad) (y:Addr):InF:=(stI (ifS (cC (trF (clF cg (ab (va 1) af)))) (ac noO' nxE) nxE) (qP y 0 "passes" (evX (biF dh (ab (lsF (ah [2] (jX noV (va 1)) (gNm 2) tQ (biF dh (ab (va 2) af)))) af)) noV (fNo (ab (lsF (ah [2] (jX noV (va 1)) (gNm 2) tQ (biF dh (ab (va 2) af)))) af))) Aj))
def  tN (fl:Str->Str->Bool):Cl:=(ac (bW (evX (biF dg (ab (flF fl "passes" (va 0)) af)) noV (fNo (ab (flF fl "passes" (va 0)) af)))) nxE)
def  yC (mt_many:MT) (kk:Nat) (ay:ad):Cl:=(ac (bW (evX (clF ay (ab (va 1) (ab (cI 0) (ab (meF (va 0) af mt_many kk "many") af)))) noV (fCl ay (ab (va 1) (ab (cI 0) (ab (meF (va 0) af mt_many kk "many") af)))))) nxE)
def  nC (dP:ad):Cl:=(ac (ifS (cC (trF (clF dP (ab (va 0) (ab (va 1) af))))) (ac noO' nxE) nxE) nxE)
def  HM:Cl:=(ac (bW (evX (ifF (ag (aa (aD false) (va 0) (cS "queue"))) (va 2) (aa bU (aa bU (va 1) (cI 1)) (va 2))) noV noV)) nxE)
def  nD:Cl:=(ac (ifS (ag (aa ltD (va 1) (biF dg (ab (va 0) af)))) (ac (bW (evX (aa ixD (va 0) (va 1)) noV noV)) nxE) nxE) (ac (bW (evX (cI 0) noV noV)) nxE))
def  tO:Cl:=(ac (frF (jX (r1F (ab (va 1) af)) (biF noD (ab (va 1) af))) (eNm 2) (ac (ao 0 (evX (aa bw (va 0) (cI 1000000)) noV noV)) nxE)) (ac (bW (evX (aa aP (va 0) (cI 1000000)) noV noV)) nxE))
def  fg (aG:ad) (bF:ad):Cl:=(ac (ifS (ag (aa (aD false) (aa aP (clF aG (ab (va 0) (ab (cI 0) af))) (cI 2)) (cI 1))) (ac (bW (evX (lsF (ah [5] (jX (r1F (ab (va 1) af)) (biF noD (ab (va 1) af))) (gNm 5) tQ (clF bF (ab (clF aG (ab (va 0) (ab (aa aE (cI 1) (aa aP (va 5) (cI 16))) af))) (ab (aa bw (va 5) (cI 16)) af))))) (ah [5] (jX (r1F (ab (va 1) af)) (biF noD (ab (va 1) af))) (gNm 5) tQ (clF bF (ab (clF aG (ab (va 0) (ab (aa aE (cI 1) (aa aP (va 5) (cI 16))) af))) (ab (aa bw (va 5) (cI 16)) af)))) (fCo [5] (jX (r1F (ab (va 1) af)) (biF noD (ab (va 1) af))) (gNm 5) tQ (frX (clF bF (ab (clF aG (ab (va 0) (ab (aa aE (cI 1) (aa aP (va 5) (cI 16))) af))) (ab (aa bw (va 5) (cI 16)) af))) noV (fCl bF (ab (clF aG (ab (va 0) (ab (aa aE (cI 1) (aa aP (va 5) (cI 16))) af))) (ab (aa bw (va 5) (cI 16)) af))))))) nxE) nxE) (ac (ao 2 (evX (cI 7) noV noV)) (ac (frF (jX noV (va 0)) (eNm 3) (ac (ao 2 (evX (aa aP (aa aE (aa aE (aa az (va 2) (va 2)) (aa az (va 3) (cI 131))) (cI 17)) (cI 1000000000039)) noV noV)) nxE)) (ac (ao 4 (evX (lsF (dpF af)) (dpF af) (fLs af))) (ac (frF (jX (r1F (ab (va 1) af)) (biF noD (ab (va 1) af))) (eNm 5) (ac (ao 2 (evX (aa aP (aa aE (aa aE (aa az (va 2) (va 2)) (aa az (cI 48271) (va 5))) (cI 11)) (cI 1000000000039)) noV noV)) (ac (yz 4 2 (evX (va 2) noV noV) (va 2)) nxE))) (ac (frF (jX (r1F (ab (biF dg (ab (va 0) af)) af)) (biF noD (ab (biF dg (ab (va 0) af)) af))) (eNm 5) (ac (ao 6 (evX (aa aP (va 5) (va 1)) noV noV)) (ac (nw 4 (va 6) (evX (aa aP (aa aE (aa az (aa ixD (va 4) (va 6)) (cI 131)) (aa ixD (va 0) (va 5))) (cI 1000000000039)) noV noV) (aa aP (aa aE (aa az (aa ixD (va 4) (va 6)) (cI 131)) (aa ixD (va 0) (va 5))) (cI 1000000000039))) nxE))) (ac (rtN 4) nxE)))))))
def  oN:Cl:=(ac (ao 1 (evX (aa ixD (lsF (dpF (ab (cI 9) (ab (cI 9) (ab (cI 9) (ab (cI 2) (ab (aa aP (aa bw (va 0) (cI 16)) (cI 10)) af))))))) (aa aP (aa bw (va 0) (cI 2)) (cI 5))) noV noV)) (ac (bW (evX (tpF (ab (aa ixD (lsF (dpF (ab (cS "queue") (ab (cS "pile") af)))) (aa aP (va 0) (cI 2))) (ab (va 1) af))) noV (fTp (ab (frX (aa ixD (lsF (dpF (ab (cS "queue") (ab (cS "pile") af)))) (aa aP (va 0) (cI 2))) noV noV) (ab (frX (va 1) noV noV) af))))) nxE))
def  fj (aX:ad):Cl:=(ac (ao 2 (evX (lsF (dpF af)) (dpF af) (fLs af))) (ac (ao 3 (evX (cI 1) noV noV)) (ac (frF (jX (r1F (ab (aa ixD (lsF (dpF (ab (cI 1) (ab (cI 2) (ab (cI 3) (ab (cI 2) (ab (cI 5) (ab (cI 4) (ab (cI 0) (ab (cI 6) af)))))))))) (aa aP (aa bw (aa ixD (va 0) (cI 0)) (cI 3)) (cI 8))) af)) (biF noD (ab (aa ixD (lsF (dpF (ab (cI 1) (ab (cI 2) (ab (cI 3) (ab (cI 2) (ab (cI 5) (ab (cI 4) (ab (cI 0) (ab (cI 6) af)))))))))) (aa aP (aa bw (aa ixD (va 0) (cI 0)) (cI 3)) (cI 8))) af))) (eNm 4) (ac (ao 5 (evX (aa ixD (lsF (dpF (ab (cI 1) (ab (cI 2) (ab (cI 3) (ab (cI 2) (ab (cI 3) (ab (cI 2) (ab (cI 4) (ab (cI 6) af)))))))))) (aa aP (aa bw (aa ixD (va 0) (aa aE (cI 1) (aa az (cI 7) (va 4)))) (cI 5)) (cI 8))) noV noV)) (ac (ifS (ag (aa gtD (aa az (va 3) (va 5)) (va 1))) (ac (ao 5 (evX (cI 1) noV noV)) nxE) nxE) (ac (ao 3 (evX (aa az (va 3) (va 5)) noV noV)) (ac (i9 2 (evX (lsF (ah [6] (jX (r1F (ab (va 5) af)) (biF noD (ab (va 5) af))) (gNm 6) tQ (clF aX (ab (aa ixD (va 0) (aa aE (aa aE (cI 2) (aa az (cI 7) (va 4))) (va 6))) af)))) (ah [6] (jX (r1F (ab (va 5) af)) (biF noD (ab (va 5) af))) (gNm 6) tQ (clF aX (ab (aa ixD (va 0) (aa aE (aa aE (cI 2) (aa az (cI 7) (va 4))) (va 6))) af))) (fCo [6] (jX (r1F (ab (va 5) af)) (biF noD (ab (va 5) af))) (gNm 6) tQ (frX (clF aX (ab (aa ixD (va 0) (aa aE (aa aE (cI 2) (aa az (cI 7) (va 4))) (va 6))) af)) noV (fCl aX (ab (aa ixD (va 0) (aa aE (aa aE (cI 2) (aa az (cI 7) (va 4))) (va 6))) af)))))) nxE))))) (ac (rtN 2) nxE))))
def  yD (ay:ad):Cl:=(ac (bW (evX (clF ay (ab (va 0) (ab (cI 1) (ab (cD (.int 9)) af)))) noV (fCl ay (ab (va 0) (ab (cI 1) (ab (cD (.int 9)) af)))))) nxE)
abbrev Pk:=Bool×Int
abbrev _root_.N0:=List (List Pk)
noncomputable def  kd (q:Bool):Str:=if q then"queue"else"pile"
def  pkD (p:Pk):D:=.tup [.str (kd p.1),.int p.2]
noncomputable def  okK (p:Pk):Bool:=decide (0<=p.2)&&decide (p.2<=9)
noncomputable def  sq (w:Bool) (ds:Oc):D:=if w then .lst ds else .tup ds
@[simp] theorem Ef (w:Bool) (ds:Oc):seqD (sq w ds)=!ds:=by cases w<;>rfl
@[simp] theorem Nl (w:Bool) (ds:Oc):dD [sq w ds,.tup [.ty "list",.ty "tuple"]]=!(.bl true):=by cases w<;>simp[sq]
def KY (p:Pk):lfD (pkD p)=true:=rfl
def HN (ps:List Pk):lfL (ps.map pkD)=true:=br λd hd=>by
 let⟨p,_,rfl⟩:=Ox.mp hd;exact KY p
def  tpD (ps:List Pk):D:=.tup (ps.map pkD)
def  ge (f:ad):Prop:=∀v a b:Int,f [.int v,.int a,.int b]=!(.deep,.bl (decide (a<=v)&&decide (v<=b)))
def Bu:ge (aC 3 3 tM):=λv a b=>by
 refine al rfl ?_;refine seqF_rt (aY (evX_lf ?_ rfl));simp[av];grind
def  Bv (f:ad):Prop:=∀v:Int,f [.int v]=!(.deep,.bl (decide (1<=v)&&decide (v<=9)))
def HP (hw:ge w):Bv (aC 1 1 (yD w)):=λv=>by
 refine al rfl ?_;refine seqF_rt (aY (evX_lf ?_ rfl));simp[av,hw v 1 9]
def KZ (q:Bool):inD (.str (kd q)) (.tup [.str "queue",.str "pile"])=!(.bl true):=by
 cases q<;>kernel_rfl
def  rB (f:ad):Prop:=∀p:Pk,f [pkD p]=!(.deep,.bl (okK p))
def Bw (hw:ge w):rB (aC 1 1 (lA w)):=λp=>by
 refine al rfl ?_;unfold lA pkD;refine(am (Y':=av 1 [.tup [.str (kd p.1),.int p.2]]) ?_).trans ?_
 .refine(da ?_).trans rfl;simp[av]
 .refine seqF_rt (aY (evX_lf ?_ rfl));simp[av,hw p.2 0 9,KZ,okK]
def  okP (ps:List Pk):Bool:=decide (1<=ps.length)&&decide (ps.length<=6)&&ps.all okK
def  Bx (f:ad):Prop:=∀ (w:Bool) (ps:List Pk),ps.length<1000->f [sq w (ps.map pkD)]=!(.deep,.bl (okP ps))
def HQ (hg:rB g):Bx (aC 1 2 (pY g)):=λw ps hlen=>by
 refine al rfl ?_;unfold pY okP;have hc:df leD leD (cI 1) (biF dg (ab (va 0) af)) (cD (.int 6)) [!(sq w (ps.map pkD)),none]=!(.bl (decide (1<=ps.length)&&decide (ps.length<=6))):=by
  by_cases h:1<=ps.length
  .have h':(1:Int)<=(ps.length:Int):=by omega
   simp[h,h'];omega
  .have h':¬ (1:Int)<=(ps.length:Int):=by omega
   simp[h,h']
 have hi:biF dD (ab (va 0) (ab (tpF (ab (cT "list") (ab (cT "tuple") af))) af)) [!(sq w (ps.map pkD)),none]=!(.bl true):=by
  cases w<;>simp[sq]
 have hT:orQ (cC (trF (biF dD (ab (va 0) (ab (tpF (ab (cT "list") (ab (cT "tuple") af))) af))))) (cC (ag (df leD leD (cI 1) (biF dg (ab (va 0) af)) (cD (.int 6))))) [!(sq w (ps.map pkD)),none]=!(not (decide (1<=ps.length)&&decide (ps.length<=6))):=by
  rw[pV,notQ_a,trF_a,hi,notQ_a,testB_a,hc];rfl
 cases hb:(decide (1<=ps.length)&&decide (ps.length<=6))with
 |false=>
  rw[hb]at hT;exact seqF_rt ((ifS_t hT).trans (seqF_rt (aY (evX_lf rfl rfl))))
 |true=>
  rw[hb]at hT;refine(am ((da hT).trans rfl)).trans ?_;refine seqF_rt (aY (evX_lf ?_ rfl));have hm:ah [1] (jX noV (va 0)) (gNm 1) tQ (clF g (ab (va 1) af)) [!(sq w (ps.map pkD)),none]=!(ps.map λp=>.bl (okK p)):=by
   refine aw (mk:=pkD) (by simp) (λp _=>?_) (Nat.lt_trans hlen (!5));simp[hg p]
  simp[av,hm,fS]
abbrev Ps:=List (Bool×List Pk)
def  paD (p:Bool×List Pk):D:=sq p.1 (p.2.map pkD)
noncomputable def  prod:N0->Nat
 |[]=>1
 |p::r=>p.length*prod r
def db:∀a b:N0,prod (a++b)=prod a*prod b
 |[],b=>by simp[prod]
 |p::a,b=>by simp only[List.cons_append,prod,db a b,Nat.mul_assoc]
def bL (a:N0) (p:List Pk):prod (a++[p])=prod a*p.length:=by rw[db];simp[prod]
def lt_big (h:-1000000<j) (h2:j<1000000):-18446744073709551616<j/\j<18446744073709551616:=by grind
def dF (h:-1000000<j) (h2:j<1000000):az (.int i) (.int j)=!(.int (i*j)):=HJ (lt_big h h2).1 (lt_big h h2).2
def By {n:Nat} (h:n<1000):az (.int i) (.int (n:Int))=!(.int (i*n)):=dF (!1) (!1)
def  jb (f:ad):Prop:=∀ (w:Bool) (pss:Ps),(∀p∈pss,p.2.length<1000)->f [sq w (pss.map paD)]=!(.deep,.int (prod (pss.map (·.2)):Nat))
def vE (A:D) (n:Nat) (p:Bool×List Pk) (hL:p.2.length<1000):
 evX (aa az (va 1) (biF dg (ab (va 2) af))) noV noV [!(.sh,A),!(.deep,.int n),!(.sh,paD p)]=!((.deep,.int (n*p.2.length:Nat)),[!(.sh,A),!(.deep,.int n),!(.sh,paD p)]):=by
 refine evX_lf ?_ rfl
 have e1:(seqD (paD p))=!_:=Ef _ _
 simp[e1]
 rw[By hL]
def yE (pss:Ps) (i:Nat) (p) (hp:pss[i]?=!p):prod ((pss.take (i+1)).map (·.2))=prod ((pss.take i).map (·.2))*p.2.length:=by
 rw[List.take_succ,hp];simp[bL]
def Eg:jb (aC 1 3 vC):=λw pss hl=>by
  refine al rfl ?_;refine(am (bK (evX_lf rfl rfl))).trans ?_;have L:=jB (J:=jX noV (va 0)) (tg:=eNm 2) (F:=ac (ao 1 (evX (aa az (va 1) _) noV noV)) nxE) (ds:=pss.map paD)
   
    (λi Y=>∃o,Y=[!(.sh,sq w (pss.map paD)),!(.deep,.int (prod ((pss.take i).map (·.2)):Nat)),o]) (by simp[av]) ⟨none,rfl⟩ (by
      rintro i d Y hd ⟨o,rfl⟩;rw[getElem?_map]at hd;cases hp:pss[i]? with
      |none=>rw[hp]at hd;cases hd
      |some p=>
        rw[hp]at hd;cases hd;have hL:=hl p (OE hp);rw[yE pss i p hp];exact⟨_,am (bK (vE _ _ p hL)),⟨!_,rfl⟩⟩)
  let⟨Y',e,o,rfl⟩:=L;refine(am e).trans (seqF_rt ?_);simp[rtN,eB]
structure Valid (pss:N0):Prop where
 len:pss.length<=6
 each:∀p∈pss,okP p=true
 codes:prod pss<=1000
def Valid.p (h:Valid pss) {p:List Pk} (hp:p∈pss):1<=p.length/\p.length<=6/\∀k∈p,0<=k.2/\k.2<=9:=by
 have:=h.each p hp;unfold okP at this;rw[and_eq_true,and_eq_true,List.all_eq_true]at this;refine⟨Oq this.1.1,Oq this.1.2,λk hk=>?_⟩;have hk:=this.2 k hk;unfold okK at hk;grind
def  sAre (f:ad):Prop:=∀ (w:Bool) (pss:Ps),Valid (pss.map (·.2))->f [sq w (pss.map paD)]=!(.deep,.bl true)
def h_are (hg:Bx g) (hc:jb c):sAre (aC 1 2 (rA c g)):=λw pss hv=>by
 refine al rfl ?_;have hl6:pss.length<=6:=by have:=hv.len;simpa using this
 have hp:∀p∈pss,p.2.length<1000:=λp hp=>by
  have:=(hv.p (List.mem_map_of_mem hp)).2.1;omega
 have hT:orQ (cC (trF (biF dD (ab (va 0) (ab (tpF (ab (cT "list") (ab (cT "tuple") af))) af))))) (ag (aa gtD (biF dg (ab (va 0) af)) (cD (.int 6)))) [!(sq w (pss.map paD)),none]=!false:=by
  have h:¬ (6:Int)<(pss.length:Int):=by omega
  cases w<;>simp[sq,h]
 refine(am ((da hT).trans rfl)).trans ?_;refine seqF_rt (aY (evX_lf ?_ rfl));have hm:ah [1] (jX noV (va 0)) (gNm 1) tQ (clF g (ab (va 1) af)) [!(sq w (pss.map paD)),none]=!(pss.map λp=>.bl (okP p.2)):=by
  refine aw (mk:=paD) (by simp) (λp hpm=>?_) (Ou hl6 (!5));have:=hg p.1 p.2 (hp p hpm);simp[paD,this]
 have ha:pss.all (λp=>okP p.2)=true:=by
  rw[List.all_eq_true];intro p hpm;exact hv.each _ (List.mem_map_of_mem hpm)
 have h1000:((prod (pss.map (·.2)):Nat):Int)<=1000:=by have:=hv.codes;omega
 simp[av,hm,fS,ha,hc w pss hp];exact h1000
def  gu (ps:N0):D:=.tup (ps.map tpD)
def  au (ps:N0):D:=.obj "Mill" ["passes"] [gu ps]
def  gM (fa:ad):Oc->Option (List (Str×D))
 |[d]=>(valO (fa [d])).bind λb=>(uJ b).bind λt=>if t=true then(ah [2] (jX noV (va 1)) (gNm 2) tQ (biF dh (ab (va 2) af)) [none,!d,none]).bind λl=>![(("passes":Str),.tup l)]else none
 |_=>none
def Eh {R Sp} (h:R (vw Y)=!d) (hs:Sp (vw Y)=none) (h2:R (shv Y)=!d):∃c,evX R noV Sp Y=!((c,d),Y):=by
 cases f:lfD d with
 |true=>exact⟨_,evX_lf h f⟩
 |false=>exact⟨_,evX_sh h f rfl hs rfl h2⟩
def vF (ds:Oc) (r:List (Str×D)) (h:gM fa ds=!r) (y:Addr):qQ 2 3 (vD fa) y ds=!r:=by
 cases ds with
 |nil=>cases h
 |cons d t=>
  cases t with
  |cons _ _=>cases h
  |nil=>
   let⟨b,h1,h⟩:=OH (h);let⟨t,h2,h⟩:=OH h;cases t with
   |false=>cases h
   |true=>
    let⟨l,h3,h4⟩:=OH (h);cases h4;have h3':ah [2] (jX noV (va 1)) (gNm 2) tQ (biF dh (ab (va 2) af)) [!(.adr y),!d,none]=!l:=by
     rw[<-h3];cases seqD d with
     |none=>rfl
     |some ps=>
      rfl
    show vD fa y (uY 3 y [d]) []=_;unfold vD;have hst:uY 3 y [d]=[!_,!_,none]:=rfl;rw[hst];have e1:(ifS (cC (trF (clF fa (ab (va 1) af)))) (ac noO' nxE) nxE) [!(.sh,.adr y),!(.sh,d),none]=!(.nx [!(.sh,.adr y),!(.sh,d),none]):=by
     refine(da ?_).trans rfl;simp[h1,h2]
    unfold stI;rw[e1];simp only[Option.bind_some];let⟨c,e2⟩:=Eh (R:=biF dh (ab (lsF (ah [2] (jX noV (va 1)) (gNm 2) tQ (biF dh (ab (va 2) af)))) af)) (Sp:=fNo (ab (lsF (ah [2] (jX noV (va 1)) (gNm 2) tQ (biF dh (ab (va 2) af)))) af)) (Y:=[!(.sh,.adr y),!(.sh,d),none]) (d:=.tup l)
     (by simp[h3']) (by simp) (by simp[h3'])
    unfold qP;rw[e2];simp[eB,Aj,mX]
def  Bz (g:Oc->Option (List (Str×D))):Prop:=∀ (w:Bool) (pss:Ps),Valid (pss.map (·.2))->g [sq w (pss.map paD)]=![(("passes":Str),gu (pss.map (·.2)))]
def HR (ha:sAre fa):Bz (gM fa):=λw pss hv=>by
 have hl6:pss.length<=6:=by have:=hv.len;simpa using this
 have hm:ah [2] (jX noV (va 1)) (gNm 2) tQ (biF dh (ab (va 2) af)) [none,!(sq w (pss.map paD)),none]=!(pss.map λp=>tpD p.2):=by
  refine aw (mk:=paD) (by simp) (λp _=>?_) (Ou hl6 (!5));simp[paD,tpD]
 show((valO (fa [sq w (pss.map paD)])).bind _)=_;rw[ha w pss hv];simp[hm,gu]
def nE {β:Type} (xs:List β) (f:β->D) (t:Nat):oG (xs.map f) (!(t:Int)) none=(xs.drop t).map f:=by
 unfold oG;rw[HT.sIx_nat,HT.sIx_none,length_map,<-List.map_drop];by_cases h:t<=xs.length
 .rw[Nat.min_eq_left h];rw[List.take_of_length_le (by rw[length_map,List.length_drop];omega)]
 .have h':xs.length<=t:=by omega
  rw[Nat.min_eq_right h',List.drop_eq_nil_of_le (le_refl _),List.drop_eq_nil_of_le h'];simp
def tR {β:Type} (xs:List β) (f:β->D) (t:Nat):oG (xs.map f) none (!(t:Int))=(xs.take t).map f:=by
 unfold oG;rw[HT.sIx_nat,HT.sIx_none,length_map,List.drop_zero,Nat.sub_zero,<-List.map_take];grind
def jD (hf:fl "Mill" "passes"=true) (ps:N0):qN fl "passes" (au ps)=!(gu ps):=by
 show(if fl "Mill" "passes"=true then List.lookup ("passes":Str) ([("passes":Str)].zip [gu ps])else none)=_;rw[if_pos hf];rfl
def Ei (hf:fl "Mill" "passes"=true) {t:Nat} (h0:bO Y 0=!(au ps)) (h1:bO Y 1=!(.int (t:Int))):
  slF (flF fl "passes" (va 0)) (c4 (va 1)) noP Y=!(.tup ((!3).map tpD)):=by
 unfold slF orO sM
 simp[h0,h1,jD hf,gu,nE]
def  FG (mt:MT) (kk:Nat):Prop:=∀ps:N0,lm mt kk "many" (au ps) []=!(.deep,.int (ps.length:Nat))
def HS (hf:fl "Mill" "passes"=true) (ps:N0):aC 1 1 (tN fl) [au ps]=!(.deep,.int (ps.length:Nat)):=by
 refine al rfl ?_;refine seqF_rt (aY (evX_lf ?_ rfl));simp[av,jD hf,gu]
def  wZ (f:ad):Prop:=∀ (ps:N0) (t:Nat),t<=ps.length->f [au ps,.int (t:Int)]=!(.deep,.bl true)
def HU {mt kk w} (hm:FG mt kk) (hw:ge w):wZ (aC 2 2 (yC mt kk w)):=λps t ht=>by
 refine al rfl ?_;refine seqF_rt (aY (evX_lf ?_ rfl));have h1:(t:Int)<=(ps.length:Int):=by omega
 simp[av,hm ps,hw (t:Int) 0 (ps.length:Int),h1]
noncomputable def  wD (w:N7):D:=.tup (w.map λ(i:Nat)=>.int (i:Int))
def tT (w:N7):lfD (wD w)=true:=br λd hd=>by
 let⟨p,_,rfl⟩:=Ox.mp hd;rfl
def  vG (f:ad):Prop:=∀ (ps:N0) (t:Nat),t<=ps.length->f [au ps,.int (t:Int)]=!(.deep,.non)
def Ej (hg:wZ g):vG (aC 2 2 (nC g)):=λps t ht=>by
 refine tI rfl (Y:=av 2 [au ps,.int (t:Int)]) ?_;refine(am ((da ?_).trans rfl)).trans rfl;simp[av,hg ps t ht]
def BA (h:f (vw Y)=!d):lj f Y=!(.nx Y):=by unfold lj;rw[h];rfl
noncomputable def  pkAt (q:Nat×List Pk):Pk:=q.2[q.1]?.getD (true,0)
def K0 (h:q.1<q.2.length):atI (q.2.map pkD) (q.1:Int)=!(pkD (pkAt q)):=by
 refine aM ?_;unfold pkAt;grind
def rC {v:Nat->Int} (I:Nat->Ev->Prop) (hJ:J (shv Y)=!((!16).map λi=>D.int (v i))) (h0:I 0 Y) (hs:∀ (i:Nat) (Y:Ev),i<n->I i Y->∃Y',F (Y.set s (!(.sh,.int (v i))))=!(.nx Y')/\I (i+1) Y'):∃Y',frF J (eNm s) F Y=!(.nx Y')/\I n Y':=by
 let⟨Y',e,i⟩:=jB (tg:=eNm s) I hJ h0 (λi d Y hd hi=>by
  rw[getElem?_map]at hd;cases hp:(!16)[i]? with
  |none=>rw[hp]at hd;cases hd
  |some p=>
   rw[hp]at hd;cases hd;let⟨hl,e⟩:=On.mp hp;rw[List.getElem_range]at e;subst e;rw[length_range]at hl;exact hs i Y hl hi)
 grind
def vw_o (o:N2) (Y:Ev):vw (o::Y)=o.map (·.2)::vw Y:=rfl
def tU {β γ:Type} {step} {mk} {out} {P:γ->Prop}:∀ (xs:List β),(∀x∈xs,∃y,P y/\step (mk x)=!(!(out y)))->∃ys:List γ,ys.length=xs.length/\(∀y∈ys,P y)/\iM step (xs.map mk)=!(ys.map out)
 |[],_=>⟨[],rfl,λ_ h=>(nomatch h),rfl⟩
 |x::xs,h=>by
  let⟨y,py,e⟩:=h x Oo;let⟨ys,l,p,e2⟩:=tU xs λe he=>h e (Op _ he);refine⟨y::ys,by simp[l],λz hz=>?_,?_⟩
  .rcases mem_cons.mp hz with rfl|hz
   .exact py
   .exact p z hz
  .rw[List.map_cons];unfold iM;rw[e,e2];rfl
def tV {β γ:Type} {Y:Vv} {xs:List β} {mk} {out} {P:γ->Prop} (hJ:J Y=!(xs.map mk)) (h:∀x∈xs,∃y,P y/\lh g ft fe (eW ks Y) (mk x)=!(!(out y))) (hl:xs.length<big):
  ∃ys:List γ,ys.length=xs.length/\(∀y∈ys,P y)/\ah ks J g ft fe Y=!(ys.map out):=by
 let⟨ys,l,p,e⟩:=tU xs h
 refine⟨ys,l,p,?_⟩
 unfold ah
 rw[hJ]
 simp only[Option.bind_some]
 rw[e]
 unfold bx
 simp[l,hl]
noncomputable def  scD (ns:N9):D:=.lst (ns.map D.int)
@[simp] theorem seq_sc (ns:N9):seqD (scD ns)=!(ns.map D.int):=rfl
@[simp] theorem NV (ns:N9):lfD (scD ns)=false:=rfl
def tW (ns:N9):lfL (ns.map D.int)=true:=br λd hd=>by
 let⟨p,_,rfl⟩:=Ox.mp hd;rfl
def jE (h:0<=i) (h2:i<ns.length):∃v,ixD (scD ns) (.int i)=!(.int v):=⟨_,Ee h h2⟩
def  BB (f:ad):Prop:=∀ (ns:N9) (k:Nat),f [scD ns,.int (k:Int)]=!(.deep,.int (ns[k]?.getD 0))
def HV:BB (aC 2 2 nD):=λns k=>by
 refine al rfl ?_;have hs:av 2 [scD ns,.int (k:Int)]=[!_,!(.sh,.int (k:Int))]:=rfl;rw[hs];by_cases h:k<ns.length
 .refine seqF_rt ((ifS_t ?_).trans (seqF_rt (aY (evX_lf ?_ rfl))))
  .have:(k:Int)<(ns.length:Int):=by omega
   simp[this]
  .simp[scD];exact aM (by simp[h])
 .refine(am ((da ?_).trans rfl)).trans (seqF_rt (aY (evX_lf ?_ rfl)))
  .have:¬ (k:Int)<(ns.length:Int):=by omega
   simp[this]
  .simp[h]
def  BC (f:ad):Prop:=∀ (c:Int) (a:Nat),a<1000->∃v:Int,0<=v/\v<1000000/\f [.int c,.int (a:Int)]=!(.deep,.int v)
def HW:BC (aC 2 3 tO):=λc a ha=>by
 have L:=rC (J:=jX (r1F (ab (va 1) af)) (biF noD (ab (va 1) af))) (s:=2) (F:=ac (ao 0 (evX (aa bw (va 0) (cI 1000000)) noV noV)) nxE)
  (λi Y=>∃x v o,Y=[!(x,.int v),!(.sh,.int (a:Int)),o]) (fR (by simp[av];exact a6 (!1))) ⟨.sh,c,none,rfl⟩ (by
   rintro i Y hi ⟨x,v,o,rfl⟩;exact⟨_,am (bK (evX_lf (by simp;exact aS (!5) (!5)) rfl)),⟨_,_,_,rfl⟩⟩)
 let⟨Y',e,x,v,o,rfl⟩:=L;refine⟨v%1000000,Int.emod_nonneg _ (!5),Int.emod_lt_of_pos _ (!5),al rfl ?_⟩;refine(am e).trans (seqF_rt (aY (evX_lf ?_ rfl)));simp;exact bf (!5)
def BD (h:0<=i) (h2:i<1000000000039):az (.int i) (.int j)=!(.int (i*j)):=nz (Int.lt_of_lt_of_le (!5) h) (Int.lt_trans h2 (!5))
def  rD (f:ad):Prop:=∀ (ns:N9) (m:Nat),ns.length<1000->0<m->m<1000->∃cs:N9,cs.length=m/\f [scD ns,.int (m:Int)]=!(.deep,scD cs)
def ke {k:Int} (h:g Y=!((.deep,d),Y')) (ho:ownL Y' i=!(.deep,ds)) (hk:fk (vw Y')=!(.int k)) (h0:0<=k) (hl:k<ds.length):nw i fk g R Y=!(.nx (Y'.set i (!(.deep,.lst (ds.set k.toNat d))))):=by
 unfold nw orO;rw[tL h ho hk h0 hl]
def HX (P:D->Prop) (h:0<=i) (h2:i<ds.length) (ha:∀d∈ds,P d):∃d,P d/\atI ds i=!d:=by
 have hl:i.toNat<ds.length:=by omega
 exact⟨ds[i.toNat],ha _ (List.getElem_mem hl),kb h (getElem?_eq_getElem hl)⟩
def md (i:Int) (h:0<j):0<=i%j/\i%j<j:=⟨Int.emod_nonneg _ (!1),Int.emod_lt_of_pos _ h⟩
def rE (i j:Int) (h:0<j):aP (.int i) (.int j)=!(.int (i%j)):=bf h
def  nF (f:ad):Prop:=∀c:Int,∃p:Pk,okK p=true/\f [.int c]=!(.deep,pkD p)
def yF:nF (aC 1 2 oN):=λc=>by
 have hx:=md (c/16) (show(0:Int)<10 by decide);have hr:=md (c/2) (show(0:Int)<5 by decide);have hq:=md c (show(0:Int)<2 by decide);let⟨d,⟨w,h0,h9,rfl⟩,e⟩:=HX (ds:=[.int 9,.int 9,.int 9,.int 2,.int (c/16%10)]) (λd=>∃w:Int,0<=w/\w<=9/\d=.int w) hr.1 hr.2 (by
  intro d hd;simp only[mem_cons,List.not_mem_nil,or_false]at hd;rcases hd with rfl|rfl|rfl|rfl|rfl
  .exact⟨9,by decide,by decide,rfl⟩
  .exact⟨9,by decide,by decide,rfl⟩
  .exact⟨9,by decide,by decide,rfl⟩
  .exact⟨2,by decide,by decide,rfl⟩
  .exact⟨_,hx.1,by omega,rfl⟩)
 let⟨d,⟨q,rfl⟩,e2⟩:=HX (ds:=[.str "queue",.str "pile"]) (λd=>∃q,d=.str (kd q)) hq.1 hq.2 (by
  intro d hd;simp only[mem_cons,List.not_mem_nil,or_false]at hd;rcases hd with rfl|rfl
  .exact⟨true,rfl⟩
  .exact⟨false,rfl⟩)
 refine⟨(q,w),by simp[okK,h0,h9],al rfl ?_⟩;have hs:av 2 [.int c]=[!_,none]:=rfl;rw[hs];refine(am (bK (evX_lf (d:=.int w) ?_ rfl))).trans (seqF_rt (aY (evX_lf ?_ rfl)))
 .simp[rE _ 10,rE _ 5,aS,e]
 .simp[rE _ 2,e2,pkD]
def  lpD (ps:N0):D:=.lst (ps.map λp=>.lst (p.map pkD))
def HY (ps:N0):lpD ps=sq true ((ps.map λp=>(true,p)).map paD):=by
 unfold lpD sq paD sq;simp
def HZ (h1:1<=p.length) (h6:p.length<=6) (h:∀k∈p,okK k=true):okP p=true:=by
 unfold okP;rw[and_eq_true,and_eq_true,List.all_eq_true];exact⟨⟨decide_eq_true h1,decide_eq_true h6⟩,h⟩
def pZ {a b:Nat} (ha:a<1000000):az (.int (a:Int)) (.int (b:Int))=!(.int ((a*b:Nat):Int)):=by
 exact nz (Int.lt_of_lt_of_le (!5) (Int.natCast_nonneg a)) (Int.lt_trans (show(a:Int)<1000000 by omega) (!5))
end L2
namespace L2
open PySem PySem.Spec PyProof.Rows
def Nm (q:Bool):decide (kd q=("pile":Str))=not q:=by cases q<;>decide
noncomputable def  lay (q:Bool) (a c:Int):Int:=if q=true then c else a-1-c
def  p0 (f:ad):Prop:=∀ (q:Bool) (a c:Int),f [.str (kd q),.int a,.int c]=!(.deep,.int (lay q a c))
def H9:p0 (aC 3 3 HM):=λq a c=>by
 refine al rfl ?_;refine seqF_rt (aY (evX_lf ?_ rfl));cases q<;>rfl
def  stp (s:Int×Int) (q:Nat×List Pk):Int×Int:=(s.1*q.2.length,q.1*s.1+lay (pkAt q).1 s.1 s.2)
def  FH (s:Int×Int) (zs:List (Nat×List Pk)):Int×Int:=zs.foldl stp s
def vH {i:Nat} (h:i<1000000):az (.int (i:Int)) (.int j)=!(.int ((i:Int)*j)):=nz (lt_big (!1) (!1)).1 (lt_big (!1) (!1)).2
def yG (hc:jb c) (ps:N0) (h:∀p∈ps,p.length<1000):c [.tup (ps.map tpD)]=!(.deep,.int (prod ps:Nat)):=by
 have e:(ps.map λp=>((false,p):Bool×List Pk)).map paD=ps.map tpD:=by rw[List.map_map];rfl
 have em:(ps.map λp=>((false,p):Bool×List Pk)).map (·.2)=ps:=by rw[List.map_map];exact List.map_id ps
 have:=hc false (ps.map λp=>(false,p)) (λp hp=>by
  let⟨q,hq,rfl⟩:=Ox.mp hp;exact h q hq)
 rw[e,em]at this;exact this
def  piles (zs:List (Nat×List Pk)):Nat:=(zs.filter λq=>not (pkAt q).1).length
end L2
namespace L2
open PySem PySem.Spec PyProof.Rows
def evX_fz {R L Sp} (h:R (vw Y)=!d) (f:lfD d=false) (hl:L (vw Y)=none) (hs:Sp (vw Y)=none) (hl2:L (shv Y)=none) (h2:R (shv Y)=none):evX R L Sp Y=!((.sh,d),gH Y):=by
 unfold evX orO i8 pR xY Dt frX orO lfO fJ;simp[h,hl,hl2,h2,f,hs]
def Ia {K} {st} (n k:Nat) (X:K.In h) (hN:h.Ns mainGlobals mg) (hfa:mg "law"=!(.ref fa)) (S:FnScope N ["script"] (aj st)) (b:bo "law" st ["script"]) (t:aN K "law" st) (g:∀base:Heap,K.In base->base.Ns mainGlobals mg->GbOk P w K mg base G) (hf:∀ns:N9,ns.length<=63->valO (dfn n k N ["script"] st G [.lst (ns.map D.int)])=!(.bl true)):
  ∃fd:FuncData,(∀ (s:Shared) (v:Value),BindsTo s fd ⟨[v],[]⟩ [("script",v)])/\∀base:Heap,K.In base->base.Ns mainGlobals mg->FnOk P w K mg base CX0 (k+1) fa fd ["script"] (spL K):=by
 let⟨f,oc,od,an,osl,kV,doc,pm,cdv,ct,h1,h2,h3,h4⟩:=t
 have e:=hfa.symm.trans (PySem.W.mg_of X hN h1)
 cases e
 have Fn:=mE h2 h3 h4
 refine⟨_,λs v=>.of_eq (b "law" kV doc pm an cdv ct [v] rfl),λbase KB hB=>HF (GU Fn S λcdv A outer s H E hr=>?_) hf⟩
 exact(Eb n).2 _ _ (tD (g base KB hB) S cdv A outer s H E hr) _
def cn_int {K} (X:K.In h) (hN:h.Ns mainGlobals mg) (t:∃t,nsIn K mainGlobals x=!(!(.int i t))):Cn K mg x (.int i):=by
 let⟨t,e⟩:=t;exact⟨_,_,PySem.W.mg_of X hN e,(show RelV (.int i) _ from⟨t,rfl⟩),λH=>rfl⟩
def cn_2str {K} (X:K.In h) (hN:h.Ns mainGlobals mg) (t:∃ (a:Addr) (od:Option Addr) (n:Nat) (sl:Array (N6)) (t0:Tok) (t1:Tok),nsIn K mainGlobals x=!(!(.ref a))/\K.lookup a=!⟨.type "tuple",od,.seq #[.str y t0,.str z t1] n,sl⟩):Cn K mg x (.tup [.str y,.str z]):=by
 let⟨a,od,n,sl,t0,t1,e,l⟩:=t;refine⟨.ref a,_,PySem.W.mg_of X hN e,rfl,λH=>⟨a,[.str y,.str z],rfl,.inr ⟨_,_,n,l,rfl,rfl,?_,?_⟩,⟨_,_,rfl,rfl,⟨_,_,rfl,rfl,rfl⟩⟩⟩⟩
 .show 2<=sizeLine;decide
 .exact .cons ⟨t0,rfl⟩ (.cons ⟨t1,rfl⟩ .nil)
def fl_one {K} (t:∃Ca,nsIn K mainGlobals C=!(!(.ref Ca))/\findIn K (.ref Ca) m=!none) (h:f=m):∀Ca,nsIn K mainGlobals C=!(!(.ref Ca))->NoAttr K Ca f:=by grind [NoAttr]
def mm {K} (c:TCls K C) (hc:nsIn K mainGlobals C=!(!(.ref Ca))):Cls K Ca:=by
 let⟨Cb,e,cl,_,_⟩:=c.ex;grind
def Nn {K} {st} {kV doc pm cdv ct} (a:nsIn K mainGlobals x=!(!(.ref f))) (l:K.lookup f=!⟨oc,od,.func (PySem.W.fnOf x x (bH st) (aF st) (aj st) .none kV doc pm an cdv ct),osl⟩) (c:PySem.W.codeIn K cdv x=true) (k:PySem.W.keepIn K (.ref f)=true):aN K x st:=⟨f,oc,od,an,osl,kV,doc,pm,cdv,ct,a,l,c,k⟩
def BE {K} {st} {kV doc pm cdv ct} (a:nsIn K mainGlobals C=!(!(.ref Ca))) (n:findIn K (.ref Ca) m=!(!(.ref f))) (i:PySem.W.isFn K (.ref f)=true) (l:K.lookup f=!⟨oc,od,.func (PySem.W.fnOf m qual (bH st) (aF st) (aj st) .none kV doc pm an cdv ct),osl⟩) (c:PySem.W.codeIn K cdv qual=true) (k:PySem.W.keepIn K (.ref f)=true):ka K C m qual st:=⟨Ca,f,oc,od,an,osl,kV,doc,pm,cdv,ct,a,n,i,l,c,k⟩
def K1 {K} (a:nsIn K mainGlobals C=!(!(.ref Ca))) (pg:PySem.W.plainGet K Ca Str.empty=true) (hd:PySem.W.hasDictIn K Ca=true) (po:PySem.W.plainOver K Ca=true) (sa:findIn K (.ref Ca) "__setattr__"=!(!(.builtin "object.__setattr__"))) (mk:PySem.W.makesIn K Ca=true) (kc:PySem.W.keepIn K (.ref Ca)=true):TCls K C:=⟨Ca,a,⟨pg,hd,po,sa⟩,mk,kc⟩
def tno {K} (a:nsIn K mainGlobals C=!(!(.ref Ca))) (n:findIn K (.ref Ca) m=!none):∃Ca,nsIn K mainGlobals C=!(!(.ref Ca))/\findIn K (.ref Ca) m=!none:=⟨Ca,a,n⟩
def yH {K} (a:nsIn K mainGlobals x=!(!(.int i t))):∃t,nsIn K mainGlobals x=!(!(.int i t)):=⟨t,a⟩
def K2 {K} (e:nsIn K mainGlobals x=!(!(.ref a))) (l:K.lookup a=!⟨.type "tuple",od,.seq #[.str y t0,.str z t1] n,sl⟩):
 ∃ (a:Addr) (od:Option Addr) (n:Nat) (sl:Array (N6)) (t0:Tok) (t1:Tok),nsIn K mainGlobals x=!(!(.ref a))/\K.lookup a=!⟨.type "tuple",od,.seq #[.str y t0,.str z t1] n,sl⟩:=⟨a,od,n,sl,t0,t1,e,l⟩
noncomputable abbrev BF (q:Str) (params:Arguments) (body:Expr) (scope:Scope) (cl:List (Str×Addr)) (pm:Value) (c':Addr) (ctv:Value):FuncData:=PySem.W.kla_fn "<lambda>" q params body scope cl pm (.ref c') ctv
noncomputable abbrev cf (q:Str) (params:Arguments) (body:Expr) (scope:Scope) (cl:List (Str×Addr)) (pm:Value) (c':Addr) (ctv:Value):Obj:=PySem.W.kla_obj "<lambda>" q params body scope cl pm c' ctv
def  cxL (X:Cx) (A:Around) (N:N8) (env:Env) (s:Shared) (H:Hp):Cx:=
 {X with A:=A.deeper env,N:=N,s₀:=s,H₀:=H,env:=env,outer:=X.stack,stack:=env::X.stack,ex:=[],fn:=λ_=>false,calm:=true,pn:=[],xe:=λ_ _=>False}
structure LamSc (scope:Scope) (x y:Str):Prop where
 xl:scope.names.lookup x=some .local
 yf:scope.names.lookup y=some .free
 only:∀z,scope.names.lookup z=some .free->z=y
 nocell:∀z∈scope.names,z.2≠.cell
 kind:scope.kind=.function
 co:scope.isCoroutine=false
 gen:scope.isGenerator=false
 ne:x≠y
section
variable {X:Cx} {pins:N1} {σ:St} {H:Hp} {s:Shared}
def Ek (I:Inv X pins σ H s) (hA:A.frames=!X.stack) (hh:A.handled=none) (S:LamSc scope x y) (hc:X.env.cells.lookup y=!c) (hcell:s.heap.IsCell c (!w)) (rw':RelV v w) (rl:RelV l u) (hns:h₁.Ns s.heap.objs.size (λz=>[(x,u)].reverse.lookup z)) (hk₁:∀b o,s.heap.get? b=!o->h₁.get? b=!o):
  Inv (cxL X A [x,y] (PySem.W.envX q scope s.heap.objs.size f (.ref c') [(y,c)]) s H) [] [!l,!v] H {s with heap:=h₁,toks:=tk}:=by
 have cl:∀z d,([(y,c)]:List (Str×Addr)).lookup z=!d->z=y/\d=c:=λz d h=>by
  rw[List.lookup_cons]at h;split at h
  .rename_i e;exact⟨by simpa using e,(Option.some.inj h).symm⟩
  .cases h
 have cy:([(y,c)]:List (Str×Addr)).lookup y=!c:=by simp[List.lookup_cons]
 have cell1:h₁.IsCell c (!w):=by
  let⟨o,ho,hd⟩:=hcell;exact⟨o,hk₁ _ _ ho,hd⟩
 refine⟨⟨I.ok.mod,S.kind,rfl,rfl,OF _,λa b d h1 h2=>?_,λa ha=>?_,λa d ha=>?_,λ_=>hh,Around.frames_deeper hA,.inr ⟨rfl,rfl⟩,λb z=>(nomatch z),I.bs,Ov I.ok.bsz I.sz,λb _ _ z=>(nomatch z),λb z=>(nomatch z),I.stack,⟨I.stkFree,I.tab⟩⟩,
  rfl,I.bare,Un.kept hk₁,⟨_,hns,λi z v' h1 h2 h3=>?_⟩,λa d h=>?_,I.hok.fresh (OF _),λa d h=>?_,λp hp=>(nomatch hp),I.hok.kept hk₁,rfl⟩
 .rw[(cl a d h1).1,(cl b d h2).1]
 .have ha':scope.names.lookup a=some .cell\/scope.names.lookup a=some .free:=ha;rcases ha' with z|z
  .exact absurd rfl (S.nocell _ (PySem.mem_of_lookup z))
  .rw[S.only a z];exact⟨c,cy⟩
 .cases ha
 .match i,h1,h2 with
  |0,h1,h2=>
   cases h1;cases h2;exact⟨u,rl,.inl ⟨S.xl,by simp[List.lookup_cons]⟩⟩
  |1,h1,h2=>
   cases h1;cases h2;exact⟨w,rw',.inr ⟨.inr S.yf,c,cy,cell1⟩⟩
  |n+2,h1,h2=>cases h1
 .let⟨rfl,rfl⟩:=cl a d h;exact⟨_,cell1⟩
 .let⟨rfl,rfl⟩:=cl a d h;exact I.freeC _ _ hc
def El (I:Inv X pins σ H s) (hA:A.frames=!X.stack) (hh:A.handled=none) (hroom:A.depth<recursionLimit) (S:LamSc scope x y) (hf:s.heap.get? f=!(cf q params body scope [(y,c)] pm c' ctv)) (hcd:s.heap.CodeRec (.ref c') q) (hb:bindArgs (BF q params body scope [(y,c)] pm c' ctv) ⟨[u],[]⟩=pure [(x,u)]) (hc:X.env.cells.lookup y=!c) (hcell:s.heap.IsCell c (!w)) (rw':RelV v w) (rl:RelV l u) (hbody:PE (cxL X A [x,y] (PySem.W.envX q scope s.heap.objs.size f (.ref c') [(y,c)]) s H) body t) (ht:t [!l,!v] H Q):
  wpAny (!4) A (call (.ref f) [u]) (EP X pins σ Q) (λ_ _=>False) s:=by
 refine wpAny_call ?_
 refine PySem.W.kla_callFunE hroom hf rfl S.co S.gen rfl hcd ?_
 rw[hb]
 refine Oi (wpAny_newFunctionEnv S.nocell (λz hz=>by rw[mem_singleton.mp hz];exact S.xl) (λh₁ hns hsb=>⟨I.nolimit.fresh _ hsb,?_⟩) S.kind)
 show codeAny _ _ (.expr body (PySem.W.envX q scope s.heap.objs.size f (.ref c') [(y,c)])) _ _
 have hk₁:∀b o,s.heap.get? b=!o->h₁.get? b=!o:=λb o e=>hsb.extBut b o (Ow (Oj e)) (Oh _ e)
 have J:=Ek (q:=q) (c':=c') (f:=f) (tk:=s.toks+[(x,u)].length) I hA hh S hc hcell rw' rl hns hk₁
 refine PySem.W.kla_codeExpr (OG (hbody [] _ _ H Q J ht) (λr s' hs=>?_) λe s' hF=>hF.elim)
 let⟨v',H',J',rv,q⟩:=hs
 exact⟨v',H',I.call' J'.os J'.base J'.hok J'.bare (λ_ z=>nomatch z),rv,q⟩
def BG (I:Inv X pins σ H s) (hP:H P=!(.cod #[] pos q)) (hcode:X.env.code=.ref c0) (hC:∀h:Heap,X.K.In h->PySem.W.CodeHd h c0 P) (hB:∀h:Heap,X.K.In h->h.BuiltinsAt X.mg P) (hgP:mainGlobals≠P) (hcl:closureFor scope X.env=pure clos) (k:∀f c' ctv s' H',Inv X pins σ H' s'->Same H H'->s'.heap.get? f=!(cf q params body scope clos ((X.mg "__name__").getD .none) c' ctv)->H' f=!(.frz (cf q params body scope clos ((X.mg "__name__").getD .none) c' ctv) (.own f))->(∃oc vs t,H' c'=!(.frz oc (.own P))/\oc.data=.fields vs/\vs[1]?=!(.str q t))->Q (.ref f) s'):
  wpAny (!4) A (makeFunction "<lambda>" q params (.expr body) scope X.env [] [] [] pos fl) Q E s:=by
 have hg:=I.ok.mod.glob.keeps I.bk
 rcases I.hok P _ hP with hp|⟨c',oc,vs,t,hp,ho,hrec⟩
 .refine PySem.W.kla_makeFunction hcl I.ok.glob hg hcode (hC _ I.kIn) hp True.intro rfl hgP (hB _ I.kIn) λc' ctv h' tk hx hge hlt hrec htb=>?_;let⟨c2,oc,vs,t,z2,goc,hvs,hv1⟩:=hrec;cases z2;have hcn:=I.hok.fresh hge;have hfs:=Ov hge (OC hlt);have hfn:=I.hok.fresh hfs;have hfc:=Nat.ne_of_gt hlt;have up:∀b o,H b=!o->upd (upd H c' (.frz oc (.own P))) h'.objs.size (.frz (cf q params body scope clos ((X.mg "__name__").getD .none) c' ctv) (.own h'.objs.size)) b=!o:=λb o e=>by
   rw[ae (ak e hfn),ae (ak e hcn)];exact e
  have kp:∀b o,b≠P->s.heap.get? b=!o->(h'.push (cf q params body scope clos ((X.mg "__name__").getD .none) c' ctv)).get? b=!o:=λb o hb e=>Oh _ (hx b o hb e);have nP:∀b,H b=none->b≠P:=λb n z=>by rw[z,hP]at n;cases n
  have lt:∀b o,s.heap.get? b=!o->b≠c'/\b≠h'.objs.size:=λb o e=>⟨Ow (Ot (Oj e) hge),Ow (Ot (Oj e) hfs)⟩;have gf:(h'.push (cf q params body scope clos ((X.mg "__name__").getD .none) c' ctv)).get? h'.objs.size=!(cf q params body scope clos _ c' ctv):=Ol _ rfl;have gc:(h'.push (cf q params body scope clos ((X.mg "__name__").getD .none) c' ctv)).get? c'=!oc:=Oh _ goc;have hc':upd (upd H c' (.frz oc (.own P))) h'.objs.size (.frz (cf q params body scope clos ((X.mg "__name__").getD .none) c' ctv) (.own h'.objs.size)) c'=!(.frz oc (.own P)):=by rw[ae (Ne.symm hfc),ai]
  refine k h'.objs.size c' ctv _ (upd (upd H c' (.frz oc _)) h'.objs.size (.frz (cf q params body scope clos _ c' ctv) _)) (I.un ⟨λb o e n _ _=>kp b o (nP b n) e,λb o e n _ _=>⟨o.slots,kp b o (nP b n) e⟩,λb o e n _=>?_,λb o e _=>?_,λb xs e=>up _ _ e,λb o u e=>up _ _ e,λb ps e=>⟨#[],by rw[up _ _ e];simp⟩⟩ ?_) (λb o e=>up b o e) gf ai ⟨oc,vs,t,hc',hvs,hv1⟩
  .rw[ae (lt b o e).2,ae (lt b o e).1];exact n
  .by_cases hb:b=P
   .subst hb;exact⟨_,Oh _ htb⟩
   .exact⟨o,kp b o hb e⟩
  .intro b o e;by_cases hbf:b=h'.objs.size
   .subst hbf;rw[ai]at e;cases e;exact⟨gf,_,gf⟩
   .rw[ae hbf]at e;by_cases hbc:b=c'
    .subst hbc;rw[ai]at e;cases e;exact⟨gc,_,gc⟩
    .rw[ae hbc]at e;by_cases hbP:b=P
     .subst hbP;rw[hP]at e;cases e;exact .inr ⟨c',oc,vs,t,Oh _ htb,hc',hvs,hv1⟩
     .refine(I.hok b o e).stay (λd v hd q=>kp d v ?_ q) (λd q=>up _ _ q) (λd xs q=>up _ _ q) λd o' u' q=>up _ _ q;rcases hd with rfl|hd
      .exact hbP
      .intro z;rw[z,hP]at hd;cases hd
 .have hf:codeAmong pos (#[]++#[rawInt pos.line,rawInt pos.col,.ref c']:Ob).toList=!(.ref c'):=codeAmong_snoc [] True.intro rfl;refine PySem.W.kla_makeFunctionHit hcl I.ok.glob hg hcode (hC _ I.kIn) hp True.intro hf (hB _ I.kIn) λctv h' tk hk hsz=>?_;have hfn:=I.hok.fresh hsz;have gf:(h'.push (cf q params body scope clos ((X.mg "__name__").getD .none) c' ctv)).get? h'.objs.size=!(cf q params body scope clos _ c' ctv):=Ol _ rfl;exact k h'.objs.size c' ctv _ _ (I.laid (o:=.frz (cf q params body scope clos _ c' ctv) (.own h'.objs.size)) (λb o e=>Oh _ (hk b o e)) hsz ⟨gf,_,gf⟩) (λb o e=>by rw[ae (ak e hfn)];exact e) gf ai
   ⟨oc,vs,t,by rw[ae (ak ho hfn)];exact ho,hrec⟩
end
def Inv.adopt {σ:St} (I:Inv X pins σ H s) (hn:H a=none) (ha:X.s₀.heap.objs.size<=a) (hL:a≠X.env.locals) (hc:∀x c,X.env.cells.lookup x=!c->c≠a) (hp:∀p∈X.pn++pins,p.1≠a) (new:ObjOk X.prog X.w (upd H a o) s.heap a o):Inv X pins σ (upd H a o) s:=
 ⟨I.ok,I.os,I.bare,⟨I.base.keep,I.base.slot,λb ob e n hx=>by rw[ae (Nat.ne_of_lt (lt_of_lt_of_le (Heap.lt_size e) ha))];exact I.base.free b ob e n hx,I.base.there,
   λb xs e=>by have q:=I.base.tups b xs e;rw[ae (ak q hn)];exact q,λb ob u e=>by have q:=I.base.frzs b ob u e;rw[ae (ak q hn)];exact q,
   λb ps e=>by let⟨m,q⟩:=I.base.tbls b ps e;exact⟨m,by rw[ae (ak q hn)];exact q⟩⟩,
  I.loc,I.cell,by rw[ae (Ne.symm hL)];exact I.free,λx c e=>by rw[ae (hc x c e)];exact I.freeC x c e,λp q=>by let⟨z1,z2,z3⟩:=I.pin p q;exact⟨z1,by rw[ae (hp p q)];exact z2,z3⟩,I.hok.adopt hn new,I.len⟩
noncomputable def  Em (a:Addr):Oa:=λb=>decide (b=a)
def kf (a:Addr):Em a a=true:=decide_eq_true rfl
section
variable {X:Cx} {pins:N1} {σ:St} {H:Hp} {s:Shared}
def  tX (X:Cx) (σ:St) (H:Hp) (A:Around) (f:Value) (xs:List V) (kds:Oc):Prop:=
 ∀ (i:Nat) (x:V) (u:Value),xs[i]?=!x->RelV x u->∀ (O:Oa) (pins:N1) (s:Shared) (H':Hp),Inv X pins σ H' s->(∀b,O b=true->Hid (H' b))->Same H (msk O H')->
  wpAny (!4) A (call f [u]) (EP X pins σ λv H2=>Same H' H2/\Is X.K (msk O H2) (kds.getD i .non) v) (λ_ _=>False) s
def  rF (X:Cx) (σ:St) (pins:N1) (H:Hp) (kS:Addr) (kds:Oc) (i:Nat) (s:Shared):Prop:=
 ∃H' kvs,Inv X pins σ H' s/\H' kS=!(.lst kvs)/\Same H (msk (Em kS) H')/\IsL X.K (msk (Em kS) H') (kds.take i) kvs
def Eo {H':Hp} (h:H' kS=!(.lst kvs)):∀b,Em kS b=true->Hid (H' b):=λb hb=>by
 rw[of_decide_eq_true hb,h];exact .inl ⟨_,rfl⟩
def BH {C:Except Value Value->Sem (ForInStep PUnit)} (T:tX X σ H A f xs kds) (hx:xs[i]?=!x) (ru:RelV x u) (hlen:kds.length=xs.length) (h64:xs.length<64) (hk:rF X σ pins H kS kds i s) (hC:∀v,C (.ok v)=(do Builtin.List.listUpdate (.ref kS) (·.push v);pure (.yield ⟨⟩))):
  wpAny (!4) A ((call f [u]).attempt>>=C) (λr s'=>r=.yield ⟨⟩/\rF X σ pins H kS kds (i+1) s') E s:=by
 let⟨H1,kvs,I,hkS,hs,il⟩:=hk
 have hi:=(On.mp hx).1
 refine Og (wpAny_attempt (OG (T i x u hx ru _ pins s H1 I (Eo hkS) hs) (λr s' h=>?_) λ_ _ z=>z.elim))
 let⟨v,H2,I2,rv,s12,iv⟩:=h
 rw[hC]
 have hkS2:=s12 _ _ hkS
 let⟨hz,its,n,r1,hl,e⟩:=I2.lstM hkS2
 have hkl:=il.len
 rw[List.length_take]at hkl
 have h64':(64:Nat)<=sizeLine:=by decide
 refine Og (listUpdate_at e rfl ?_ (by rw[size_toArray];omega) (by rw[Array.size_push,size_toArray];omega))
 have I3:=I2.lset (t':=s'.toks) (f:=λz=>z.push r) hkS2 e (by simp) (Vals.append r1 (.cons rv .nil)) (by rw[length_append];show _+1<=_;omega)
 refine Oi ⟨rfl,_,_,I3,ai,?_,?_⟩
 .rw[eH (kf kS)];exact hs.trans s12.msk
 .rw[eH (kf kS)];have ht:kds.take (i+1)=kds.take i++[kds.getD i .non]:=by
   rw[List.take_add_one];have:kds[i]?=!(kds.getD i .non):=by
    rw[List.getD_eq_getElem?_getD,getElem?_eq_getElem (!1)];rfl
   rw[this];rfl
  rw[ht];exact(IsL.mono s12.msk _ _ il).app ⟨v,[],rfl,iv,rfl⟩
def  plcK (kds:Oc):N7:=if kds.length<2 then List.range kds.length else(kRun (oJ λi=>flt (kds.getD i .non)) (PySem.W.kas_sort kds.length)).toList
def ip (kds:Oc):(plcK kds).Perm (List.range kds.length):=by
 unfold plcK;split
 .exact .refl _
 .exact(cR _ (!1)).1
def tY (kds:Oc):(plcK kds).Pairwise (λa b=>HT.lexLt (flt (kds.getD b .non)) (flt (kds.getD a .non))=false):=by
 unfold plcK;split
 .rename_i h;match e:kds.length,h with
  |0,_=>exact .nil
  |1,_=>exact List.pairwise_singleton _ _
 .exact(cR _ (!1)).2
def Ep {st} (I:Inv X ((a,seqObj "list" #[] e1)::pins) σ H2 s) (hkS:H2 kS=!(.lst kvs)) (hk64:kvs.length<64) (hfl:failedOf st=none) (har:(arrOf st).map (·.2)=its.toArray) (rv:Vals ys its) (h64:its.length<64) (ha:X.s₀.heap.objs.size<=a) (hc:∀x c,X.env.cells.lookup x=!c->c≠a) (hpp:∀p∈X.pn++pins,p.1≠a) (h:∀s',Inv X pins σ (upd (upd H2 kS (.lst [])) a (.lst ys)) s'->upd H2 kS (.lst []) a=none->P (.done (.ret .none)) s'):wpAny (!4) A (ksk_tail a false e1 (.ref kS) st) P E s:=by
 have h64':(64:Nat)<=sizeLine:=by decide
 have hpin:=I.pin (a,seqObj "list" #[] e1) (OA _ (.head _));have hak:a≠kS:=λz=>by have q:=hpin.2.1;dsimp only at q;rw[z,hkS]at q;cases q
 let⟨_,kts,n,r1,hl,e⟩:=I.lstM hkS;unfold ksk_tail;dsimp only;refine Og (listUpdate_at e rfl ?_ (by rw[size_toArray];omega) (Nat.zero_le _));have I3:=I.lset (ys:=[]) (its':=[]) (t':=s.toks) (f:=λ_=>(#[]:Ob)) hkS e rfl .nil (Nat.zero_le _);have hp3:=I3.pin (a,seqObj "list" #[] e1) (OA _ (.head _));refine Og (wpAny_letGo ?_);refine Og (seqEpoch_at hp3.1 rfl ?_);refine Og (listUpdate_at hp3.1 rfl ?_ (Nat.zero_le _) ?_)
 .rw[hfl];simp only[bne_self_eq_false,Bool.false_eq_true,if_false];refine Oi (h _ ?_ hp3.2.1);have I4:Inv X pins σ (upd H2 kS (.lst [])) {s with heap:=s.heap.update kS (Obj.mapSeq λ_=>(#[]:Ob)),toks:=s.toks}:=I3.pins_of λp hp=>I3.pin p (OA _ (Op _ hp));obtain⟨c2,hc2⟩:∃c2,((s.heap.update kS (Obj.mapSeq λ_=>(#[]:Ob))).update a (Obj.mapSeq λ_=>(arrOf st).map (·.2))).get? a=!(seqObj "list" ((arrOf st).map (·.2)) c2):=⟨_,get?_update_seq hp3.1 λ_=>(arrOf st).map (·.2)⟩;have I5:=I4.turned (t':=s.toks) (it:=a) (h':=(s.heap.update kS (Obj.mapSeq λ_=>(#[]:Ob))).update a (Obj.mapSeq λ_=>(arrOf st).map (·.2))) (λb o hb q=>by rw[Heap.get?_update_ne _ _ _ _ hb];exact q) hp3.2.1 hp3.2.2.1 (.inr ha) hc hpp;refine I5.adopt hp3.2.1 ha hp3.2.2.1 hc hpp ⟨by rw[rv.length];omega,its,c2,rv,?_⟩;exact hc2.trans (by rw[har])
 .show((arrOf st).map (·.2)).size<=_;rw[har,size_toArray];omega
def Ib (hk:rF X σ ((a,seqObj "list" #[] e1)::pins) H kS kds kds.length s) (hu:A.units+1<cLine) (hs:cb kds) (hlen:kds.length=xs.length) (rv:Vals xs its) (h64:xs.length<64) (ha:X.s₀.heap.objs.size<=a) (hc:∀x c,X.env.cells.lookup x=!c->c≠a) (hpp:∀p∈X.pn++pins,p.1≠a) (h:∀s' H',Inv X pins σ (upd H' a (.lst ((plcK kds).map λi=>xs.getD i .non))) s'->H' a=none->Same H H'->P (.done (.ret .none)) s'):
  wpAny (!4) A (do let keys<-Builtin.List.listItems (.ref kS);ksk_end a false its.toArray e1 (.ref kS) keys) P E s:=by
 let⟨H2,kvs,I,hkS,hsm,il⟩:=hk
 rw[List.take_length]at il
 have hkl:=il.len
 have hil:=rv.length
 let⟨hz,kts,n,r1,hl,e⟩:=I.lstM hkS
 have hlt:∀i∈plcK kds,i<kds.length:=λi hi=>OD.mp ((ip kds).mem_iff.mp hi)
 have vv:Vals ((plcK kds).map λi=>xs.getD i .non) ((plcK kds).map λi=>its.getD i .none):=c7 rv .non .none (λi hi=>by have:=hlt i hi;omega)
 have ln:((plcK kds).map λi=>its.getD i Value.none).length<64:=by rw[length_map,(ip kds).length_eq,length_range];omega
 have sm:Same H (upd H2 kS (.lst [])):=λb o q=>by
  have q':=aJ (hsm b o q);rw[ae (λz=>by rw[z]at q';rw[kf]at q';cases q'.1)];exact q'.2
 have fin:∀st:SortSt,failedOf st=none->(arrOf st).map (·.2)=((plcK kds).map λi=>its.getD i Value.none).toArray->wpAny _ A (ksk_tail a false e1 _ st) P E s:=λst hf har=>
  Ep I hkS (!1) hf har vv ln ha hc hpp λs' I' hn=>h s' _ I' hn sm
 refine Og (listItems_at e rfl ?_)
 unfold ksk_end
 simp only[Bool.false_eq_true,if_false]
 by_cases h2:its.toArray.size<2
 .rw[if_pos h2,if_pos h2];refine Og (Oi ?_);refine Og (Oi ?_);rw[size_toArray]at h2;refine fin (SortSt.mk' general' _ #[] 7 none) rfl ?_;have ep:plcK kds=List.range kds.length:=if_pos (!1);rw[ep,show kds.length=its.length by omega,bA];show(kts.toArray.zip its.toArray).map (·.2)=its.toArray;apply Array.toList_inj.mp;simp only[Array.toList_map,Array.toList_zip];exact List.map_snd_zip (!1)
 .rw[if_neg h2,if_neg h2];rw[size_toArray]at h2;let⟨sh,hne,hs'⟩:=hs;have B:=wK I hu il.full r1 hne hs' (OF s.heap.objs.size) s.heap (λ_ _ q=>q);refine Og (OG (B.kd s.heap (λ_ _ _ q=>q) (!1) (λκ' s'=>κ'=tuples' _/\s'=s) ⟨rfl,rfl⟩) ?_ λ_ _ z=>z.elim);rintro κ' s1 ⟨z1,z2⟩;rw[z1,z2];refine Og (OG (PySem.W.kat_run (Q:=λst' s'=>((arrOf st').map (·.2)=((plcK kds).map λi=>its.getD i Value.none).toArray/\failedOf st'=none)/\s'=s) (!1) (!1) (!1)
   (G:=λp s'=>p=kRun (oJ λi=>flt (kds.getD i .non)) _/\s'=s) (λp st' s' a1 a2 a3 a4=>⟨⟨?_,a3⟩,a4.2⟩) (qY (λi j C hi hj z=>B.cp s.heap (λ_ _ _ q=>q) i j (!1) (!1) C z) _ (qX (!1)) ⟨rfl,rfl⟩)) ?_ λ_ _ z=>z)
  .rw[PySem.W.kat_snds (!1) a2,a4.1];have ep:plcK kds=(kRun (oJ λi=>flt _) (PySem.W.kas_sort kds.length)).toList:=if_neg (!1);rw[ep,show kds.length=its.length by omega]
  .rintro⟨⟨⟩,st'⟩ s2 ⟨⟨z3,z4⟩,z5⟩;rw[z5];exact fin st' z4 z3
end
section
variable {X:Cx} {pins:N1} {σ:St} {H:Hp} {s:Shared}
def Er (I:Inv X pins σ H s) (hu:A.units+1<cLine) {h2:Heap} (ho:h2.get? a=!(seqObj "list" its.toArray m)) (kp:∀b o,s.heap.get? b=!o->h2.get? b=!o) (ha:s.heap.objs.size<=a) (T:tX X σ H A (.ref f) xs kds) (hs:cb kds) (hlen:kds.length=xs.length) (rv:Vals xs its) (h64:xs.length<64) (h:∀s' H',Inv X pins σ (upd H' a (.lst ((plcK kds).map λi=>xs.getD i .non))) s'->H' a=none->Same H H'->P (.done (.ret .none)) s'):wpAny (!4) A (ksk_tree a (.ref f) false) P E {s with heap:=h2}:=by
 have hil:=rv.length;have h64':(64:Nat)<=sizeLine:=by decide
 have lt:=Oj ho;obtain⟨e1,ho1⟩:∃e1,(h2.update a (Obj.mapSeq λ_=>(#[]:Ob))).get? a=!(seqObj "list" #[] e1):=⟨_,get?_update_seq ho λ_=>#[]⟩;have hkS:((h2.update a (Obj.mapSeq λ_=>(#[]:Ob))).push (seqObj "tuple" its.toArray 0)).objs.size=h2.objs.size+1:=by rw[size_push',Heap.size_update]
 have hne:∀b o,s.heap.get? b=!o->b≠a:=λb o e=>Ow (Ot (Oj e) ha);have kp5:∀b o,s.heap.get? b=!o->(((h2.update a (Obj.mapSeq λ_=>(#[]:Ob))).push (seqObj "tuple" its.toArray 0)).push (seqObj "list" #[] 0)).get? b=!o:=λb o e=>
  Oh _ (Oh _ (by rw[Heap.get?_update_ne _ _ _ _ (hne b o e)];exact kp b o e))
 have ho5:(((h2.update a (Obj.mapSeq λ_=>(#[]:Ob))).push (seqObj "tuple" its.toArray 0)).push (seqObj "list" #[] 0)).get? a=!_:=Oh _ (Oh _ ho1);have hsk:=Ov ha (OC (Nat.lt_succ_of_lt lt));have hak:=Ow (Nat.lt_succ_of_lt lt);have kSn:=I.hok.fresh hsk;have an:=I.hok.fresh ha;have I5:Inv X pins σ (upd H (h2.objs.size+1) (.lst [])) {s with heap:=((h2.update a (Obj.mapSeq λ_=>(#[]:Ob))).push _).push _,toks:=s.toks}:=
  I.laid kp5 hsk ⟨Nat.zero_le _,[],0,.nil,by rw[<-hkS];exact Ol _ rfl⟩
 have hL:=Nat.ne_of_gt (Ot I.lt ha);have I6:Inv X ((a,seqObj "list" #[] e1)::pins) σ (upd H (h2.objs.size+1) (.lst [])) {s with heap:=((h2.update a (Obj.mapSeq λ_=>(#[]:Ob))).push (seqObj "tuple" its.toArray 0)).push (seqObj "list" #[] 0),toks:=s.toks}:=by
  refine I5.pins_of λp hp=>?_;rcases mem_cons.mp hp with rfl|hp
  .exact⟨ho5,by rw[ae hak];exact an,hL,I.nofs ha,λv z=>by cases z⟩
  .exact I5.pin p (OA _ hp)
 refine Og (listItems_at ho rfl ?_);refine Og (listUpdate_at ho rfl ?_ (by rw[size_toArray];omega) (Nat.zero_le _));refine Og (seqEpoch_at ho1 rfl ?_);refine Og (wpAny_newTuple ?_ (by show its.length<=_;omega));refine Og (wpAny_newList ?_ (Nat.zero_le _));refine wpAny_holding ?_;rw[hkS];refine Og (wpAny_rule ?_);first
  |rw[List.forIn_toArray]
  |(rw[<-Array.forIn_toList];simp only[List.toList_toArray])
  |rw[<-Array.forIn_toList]
 refine Og (ksk_fold (λi s'=>rF X σ ((a,seqObj "list" #[] e1)::pins) H (h2.objs.size+1) kds i s') its 0 _ ?_ ?_ ?_)
 .refine⟨_,[],I6,ai,λb o e=>?_,rfl⟩;have hb:=ak e kSn;rw[aA (decide_eq_false hb),ae hb];exact e
 .intro j u s' hu' hk;rw[Nat.zero_add]at hk⊢;have hj:=(On.mp hu').1;obtain⟨x,hx⟩:∃x,xs[j]?=!x:=⟨_,getElem?_eq_getElem (!1)⟩;let⟨u2,h1,rx⟩:=rv.get hx;rw[hu']at h1;cases h1;exact BH T hx rx hlen h64 hk (λv=>rfl)
 .intro s' hk;rw[Nat.zero_add,show its.length=kds.length by omega]at hk;exact Ib hk hu hs hlen rv h64 (Ov I.sz ha) (λx c e z=>by
   let⟨v,o,hoc,_⟩:=I.cell x c e;exact absurd (Ot (Oj hoc) (by rw[z];exact ha)) (OB _)) (λp hp z=>absurd (Ot (Oj (I.pin p hp).1) (by rw[z];exact ha)) (OB _)) h
def vI (I:Inv X pins σ H s) (hu:A.units+3<cLine) (hx:SqL X.K H l xs) (T:tX X σ H A.in1.in1 (.ref f) xs kds) (hs:cb kds) (hlen:kds.length=xs.length) (h64:xs.length<64) (h:∀a s' H',Inv X pins σ (upd H' a (.lst ((plcK kds).map λi=>xs.getD i .non))) s'->H' a=none->Same H H'->vQ (.ref a) s'):wpAny (!4) A (call (.builtin "sorted") [.ref l] [(Str.ofString "key",.ref f)]) vQ E s:=by
 let⟨its,rv,pl,hz⟩:=I.list hx;have hl:=pl.isList;have hil:=rv.length;refine call_function_entry_kw kind_sorted plain_sorted entry_sorted (ksk_s1 _ _) ?_;refine Og (Oi ?_);refine Og (collect_list hl ?_ (!1));refine Og (wpAny_newList ?_ (!1));have hsz:((s.heap.push (seqObj "list" #[] 0)).update s.heap.objs.size (Obj.mapSeq (·++its.toArray))).objs.size=s.heap.objs.size+1:=by rw[Heap.size_update,size_push']
 have hoL:(((s.heap.push (seqObj "list" #[] 0)).update s.heap.objs.size (Obj.mapSeq (·++its.toArray))).push (seqObj "list" its.toArray 0)).get? (!13)=!(seqObj "list" its.toArray 0):=by
  rw[<-hsz];exact Ol _ rfl
 have keep:∀b o,s.heap.get? b=!o->(((s.heap.push _).update s.heap.objs.size (Obj.mapSeq (·++its.toArray))).push (seqObj "list" its.toArray 0)).get? b=!o:=λb o q=>by
  have hlt:=Oj q;rw[Heap.get?_push_ne _ _ _ (by rw[hsz];exact Ow (Nat.lt_succ_of_lt hlt)),Heap.get?_update_ne _ _ _ _ (Ow hlt),Heap.get?_push_ne _ _ _ (Ow hlt)];exact q
 rw[hsz];refine Og (wpAny_holding (wpAny_call_entry_kw slot_list_sort ⟨_,hoL,rfl⟩ entry_list_sort ?_ (ksk_l1 _ _)));refine Er I (by show A.units+1+1+1<_;omega) hoL keep (Nat.le_succ _) T hs hlen rv h64 λs' H' I' hn sm=>⟨_,rfl,?_⟩;exact Oi ⟨_,rfl,h _ s' H' I' hn sm⟩
end
structure LamAt (X:Cx) (x y:Str) (i:Nat) (params:Arguments) (body:Expr) (scope:Scope) (lpos:Pos) (P c0:Addr) (fb:wp):Prop where
 tab:lamTabs.lookup P=!(lpos,X.env.qual++"<lambda>")
 code:X.env.code=.ref c0
 hd:PySem.W.codeHdIn X.K c0 P=true
 blt:∀h:Heap,X.K.In h->h.BuiltinsAt X.mg P
 ne:mainGlobals≠P
 sc:LamSc scope x y
 names:scope.names=[(x,.local),(y,.free)]
 kind:X.env.kindOf y=some .cell
 pos:X.N[i]?=!y
 dfl:defaultsOf params X.env=([],[])
 bind:∀q cl pm c' ctv u,bindArgs (BF q params body scope cl pm c' ctv) ⟨[u],[]⟩=pure [(x,u)]
 body:∀A q L f c' c s H,PP (cxL X A [x,y] (PySem.W.envX q scope L f c' [(y,c)]) s H) body fb
def BI (hn:scope.names=[(x,.local),(y,.free)]) (hc:env.cells.lookup y=!c):closureFor scope env=pure [(y,c)]:=by
 unfold closureFor;rw[hn];have e:cellOf env y=pure c:=by unfold cellOf;rw[hc]
 grind
noncomputable def  lB (fb:wp) (dy:D):Oc->N3
 |[]=>![]
 |d::ds=>(fb [!d,!dy]).bind λk=>(lB fb dy ds).bind λks=>!(k::ks)
def qc:∀ {ds ks:Oc},lB fb dy ds=!ks->ks.length=ds.length
 |[],_,h=>by cases h;rfl
 |d::ds,_,h=>by
  let⟨k,_,h⟩:=OH h;let⟨ks,h2,h⟩:=OH h;cases h;rw[length_cons,length_cons,qc h2]
def tZ:∀ {ds ks:Oc},lB fb dy ds=!ks->∀ {j:Nat} {d:D},ds[j]?=!d->fb [!d,!dy]=!(ks.getD j .non)
 |[],_,_,_,_,e=>by cases e
 |d::ds,_,h,j,d',e=>by
  let⟨k,h1,h⟩:=OH h;let⟨ks,h2,h⟩:=OH h;cases h;match j,e with
  |0,e=>cases e;exact h1
  |j+1,e=>exact tZ h2 e
section
variable {X:Cx} {σ:St} {H:Hp}
def BJ (L:LamAt X x y i params body scope lpos P c0 fb) (hA:A.frames=!X.stack) (hh:A.handled=none) (hroom:A.depth<recursionLimit) (hf:H f=!(.frz (cf q params body scope [(y,c)] pm c' ctv) (.own f))) (hcc:∃oc vs t,H c'=!(.frz oc (.own P))/\oc.data=.fields vs/\vs[1]?=!(.str q t)) (hc:X.env.cells.lookup y=!c) (il:IsL X.K H ds xs) (hσ:σ[i]?=!(!vy)) (iy:Is X.K H dy vy) (hk:lB fb dy ds=!kds):tX X σ H A (.ref f) xs kds:=by
 intro j x' u hx rx O pins s H' I hO sm;let⟨oc,vs,t,h1,h2,h3⟩:=hcc;have gf:=(I.hok f _ (aJ (sm _ _ hf)).2).1;have gc:=(I.hok c' _ (aJ (sm _ _ h1)).2).1;let⟨m,_,hl⟩:=I.loc;let⟨w,rw',lk⟩:=hl i y vy L.pos hσ (.inr (.inl L.kind));have hcell:s.heap.IsCell c (!w):=by
  rcases lk with⟨z,_⟩|⟨_,c2,z,q⟩
  .rw[L.kind]at z;cases z
  .rw[hc]at z;cases z;exact q
 obtain⟨d,hd,ix⟩:∃d,ds[j]?=!d/\Is X.K H d x':=by
  have hj:j<ds.length:=by rw[il.len];exact(On.mp hx).1
  let⟨z,e,q⟩:=fZ il.paired (getElem?_eq_getElem hj);rw[hx]at e;cases e;exact⟨_,getElem?_eq_getElem hj,q⟩
 refine El I hA hh hroom L.sc gf ⟨c',oc,vs,t,rfl,gc,h2,h3⟩ (L.bind _ _ _ _ _ u) hc hcell rw' rx (L.body A q _ f _ c s H' O [!d,!dy]) ?_;refine⟨⟨hO,rfl,λn e hn=>?_⟩,_,tZ hk hd,λv H2 s2 iv=>⟨s2,iv⟩⟩;match n,hn with
 |0,hn=>cases hn;exact⟨_,rfl,Is.mono sm _ _ ix⟩
 |1,hn=>cases hn;exact⟨_,rfl,Is.mono sm _ _ iy⟩
 |n+2,hn=>cases hn
def  BK (fb:wp) (i:Nat) (Y:Vv):Oc->N3:=un1 λd=>(jp d).bind λds=>(bO Y i).bind λdy=>(lB fb dy ds).bind λks=>
 if ds.length<64/\cb ks then !((plcK ks).map λj=>ds.getD j .non)else none
def BM (hr:Room k X.A) (hg:Gl X "sorted") (hm:X.mg "sorted"=none) (ha:PX X [m] fm) (hs:starEach [m] X.env=[(false,eval m X.env)]) (L:LamAt X x y i params body scope lpos P c0 fb):PF X (.Call (.Name "sorted" p) [m] [⟨some "key",.Lambda params body scope lpos,kp⟩] pos) (λY=>(fm Y).bind (BK fb i Y)):=by
 intro O Y pins s σ H Q I ⟨E,ds,q,k'⟩;let⟨as,e1,q⟩:=OH q;let⟨d,rfl,q2⟩:=bh q;let⟨es,q3,q4⟩:=OH q2;let⟨dy,q5,q6⟩:=OH q4;let⟨ks,q7,q8⟩:=OH q6;let⟨⟨h64,hsh⟩,q9⟩:=ar q8;subst q9;refine wpAny_Call_Name_kw (cE I hg hm u6 ?_ (!5) (!5));refine callWith_kw (thn (ha O Y pos pins s σ H (λvs H1=>Same H H1/\IsL X.K _ [d] vs) I ⟨E,[d],e1,λvs H1 s1 il=>⟨s1,il⟩⟩) λus s1 h1=>?_) (by rw[hs];rfl) (by rw[hs];rfl);let⟨vs,H1,I1,r1,sm1,il⟩:=h1;let⟨v,rfl,h⟩:=is1 il;let⟨l,ys,rfl,t,l2⟩:=bS q3 h;let⟨u,rfl,ru⟩:=gq r1;cases ru;let⟨vy,hσ,iy⟩:=(E.grow sm1).sh i dy (pM q5);let⟨c,hc⟩:=I.ok.has y (.inl L.kind);refine kws_cons (PySem.W.kla_eval L.dfl (BG I1 (I1.tab P _ L.tab) L.code (λh K=>PySem.W.codeHd_of_K K L.hd) L.blt L.ne (BI L.names hc) λf c' ctv s2 H2 I2 s12 gf hf hcc=>kws_nil ?_));have l3:=IsL.mono s12 _ _ l2.full;have T:tX X σ H2 X.A.in1.in1 (.ref f) ys ks:=BJ (A:=X.A.in1.in1) L I.ok.frames hr.hd (by have:=hr.dp;show X.A.depth<_;omega) hf hcc hc l3 hσ (Is.mono s12 _ _ (Is.mono msk_le _ _ iy)) q7;have hlen:=qc q7;have hl2:=l2.len;refine vI I2 (by have:=hr.un;omega) (SqL.up s12 (msk_le.seq t)) T hsh (!1) (!1) λa s3 H3 I3 hn s23=>⟨.ref a,_,I3,rfl,k' a _ H3 ((sm1.trans s12).trans s23) hn ?_⟩;refine IsL.of (c7 (IsL.mono (s12.trans s23).msk _ _ l2).paired .non .non λj hj=>?_);have:=OD.mp ((ip ks).mem_iff.mp hj);omega
end
def  w4 (K:Frag) (x:Str) (st:Stmt) (P:Addr):Prop:=∃ (f c0:Addr) (oc:Value) (od an:Option Addr) (osl:Array (N6)) (kV doc pm ct:Value),nsIn K mainGlobals x=!(!(.ref f))/\
 K.lookup f=!⟨oc,od,.func (PySem.W.fnOf x x (bH st) (aF st) (aj st) .none kV doc pm an (.ref c0) ct),osl⟩/\PySem.W.codeIn K (.ref c0) x=true/\PySem.W.keepIn K (.ref f)=true/\PySem.W.codeHdIn K c0 P=true
def  w5 (K:Frag) (P:Addr):Prop:=∃ (bm:Addr) (o:Obj),nsIn K mainGlobals "__builtins__"=!(!(.ref bm))/\bm≠builtinsNs/\bm≠mainGlobals/\bm≠P/\K.lookup bm=!o/\o.cls=.type "module"/\o.dict=!builtinsNs/\o.data=.plain
def  yI (fm:dl) (fb:wp) (i:Nat):dl:=λY=>(fm Y).bind (BK fb i Y)
def  Es (fm:dl) (fb:wp) (i:Nat):Cl:=ac (bW (orO (i8 λY=>fJ (yI fm fb i Y)) (pR (yI fm fb i)))) λY=>!(.nx Y)
section
variable {P:Program} {w:World} {K:Frag} {mg:Str->N6} {base:Heap}
def Ic (g:GbOk P w K mg base G) (KX:K.In h) (hN:h.Ns mainGlobals mg) {st} (k:Nat) (S:FnScope N ps (aj st)) (b:bo x st ps) (t:w4 K x st Pa) (hb:w5 K Pa) (hst:aF st=[.Return (!(.Call (.Name "sorted" p) [.Name m mp] [⟨some "key",.Lambda params body scope lpos,kp⟩] pos)) rpos]) (tab:lamTabs.lookup Pa=!(lpos,(x++".<locals>.")++"<lambda>")) (ne:mainGlobals≠Pa) (sc:LamSc scope z y) (names:scope.names=[(z,.local),(y,.free)]) (hy:N[i]?=!y) (hm:N[j]?=!m) (hyk:(aj st).names.lookup y=some .cell) (hmk:(aj st).names.lookup m=some .local) (hmd:(m==("__debug__":Str))=false) (hmc:(m==("__classdict__":Str))=false) (dfl:∀env,defaultsOf params env=([],[])) (bind:∀q cl pm c' ctv u,bindArgs (BF q params body scope cl pm c' ctv) ⟨[u],[]⟩=pure [(z,u)]) (hbody:∀X:Cx,X.N=[z,y]->X.env.scope=scope->PP X body fb) (hgl:glS (Bh N st k G) "sorted"=true) (hno:G.no "sorted"=true):
  Df P w K mg base x (k+1) (aC ps.length N.length (Es (ab (va j) λ_=>![]) fb i)):=by
 let⟨f,c0,oc,od,an,osl,kV,doc,pm,ct,h1,h2,h3,h4,h5⟩:=t
 have Fn:=mE h2 h3 h4
 refine⟨f,_,ps,PySem.W.mg_of KX hN h1,h4,Fn.binds λkV doc pm an cdv ct us hl=>b x kV doc pm an cdv ct us hl,?_⟩
 refine Fe h2 h3 S (λvs H Q E ⟨O,ds,d,_,il,e,_⟩=>by rw[<-il.len];exact(ii e).1) (λA outer s H vs Q E hr ⟨O,ds,d,hd,il,e,kk⟩=>?_)
 have o:=(tD g S _ A outer s H E hr).s
 have pr:PRs (mB CX0 P w K mg base N x (aj st) f (.ref c0) A outer s H E).nox (aF st) (Es (ab (va j) λ_=>![]) fb i):=by
  rw[hst];let⟨ok,gl⟩:=aK o hgl;have L:LamAt (mB CX0 P w K mg base N x (aj st) f (.ref c0) A outer s H E).nox z y i params body scope lpos Pa c0 fb:=
   ⟨tab,rfl,h5,λh' K'=>?_,ne,sc,names,hyk,hy,dfl _,bind,λA' q L' f' c' c s' H'=>hbody _ rfl rfl⟩
  .have F:=(BM (p:=p) (pos:=pos) (kp:=kp) o.room gl (o.g.no _ hno) (px_cons (e:=.Name m mp) (mL j hm (.inl hmk) hmd hmc) uK) rfl L).u rfl;exact ww (uS (wv (Fl (Ac F)) (Ad F))) Ae
  .let⟨bm,ob,b1,b2,b3,b4,b5,b6⟩:=hb;exact⟨bm,ob,PySem.W.mg_of KX hN b1,b2,b3,b4,K' _ _ b5,b6⟩
 refine⟨_,(pr ⟨H,O⟩ O _).nox,mU hd il,?_⟩
 let⟨o',e1,e2⟩:=OH (ii e).2
 refine⟨o',e1,?_⟩
 cases o' with
 |rt d'=>cases e2;exact kk
 |nx Y=>cases e2;exactλσ' H' O' s' E'=>kk .non H' ⟨O',[],E'.same,E'.sub,E'.lis,List.nodup_nil,λ_ h=>(nomatch h),rfl,rfl⟩
 |bk Y=>cases e2
 |ct Y=>cases e2
end
noncomputable abbrev lcA (l:Nat):Arguments:={posonlyargs:=[],args:=[{arg:="letter",annotation:=none,pos:=⟨l,38,l,44⟩}],vararg:=none,kwonlyargs:=[],kw_defaults:=[],kwarg:=none,defaults:=[]}
noncomputable abbrev lcB (l:Nat):Expr:=.Tuple [.Subscript (.Subscript (.Name "letters" ⟨l,47,l,54⟩) (.Name "letter" ⟨l,55,l,61⟩) ⟨l,47,l,62⟩) (.Constant (.int 1) 0 ⟨l,63,l,64⟩) ⟨l,47,l,65⟩,.Name "letter" ⟨l,67,l,73⟩] 0 ⟨l,46,l,74⟩
noncomputable abbrev lcS:Scope:={kind:=.function,names:=[(Str.ofString "letter",.local),(Str.ofString "letters",.free)],isGenerator:=false,isCoroutine:=false,more:=[]}
abbrev lcF:wp:=tpF (ab (aa ixD (aa ixD (va 1) (va 0)) (cI 1)) (ab (va 0) af))
def  No (l:Nat):List Stmt:=[.Return (!(.Call (.Name "sorted" ⟨l,11,l,17⟩) [.Name "members" ⟨l,18,l,25⟩] [⟨some "key",.Lambda (lcA l) (lcB l) lcS ⟨l,31,l,74⟩,⟨l,27,l,74⟩⟩] ⟨l,11,l,75⟩)) ⟨l,4,l,75⟩]
def Np:LamSc lcS "letter" "letters" where
 xl:=rfl
 yf:=rfl
 only:=λz h=>by
  have h':(if z==Str.ofString "letter"then !NameKind.local else if z==Str.ofString "letters"then some .free else none)=some .free:=by
   rw[<-h];rw[List.lookup_cons,List.lookup_cons];cases z==Str.ofString "letter"<;>cases z==Str.ofString "letters"<;>rfl
  split at h'
  .cases h'
  .split at h'
   .rename_i q;exact eq_of_beq q
   .cases h'
 nocell:=λz hz=>by
  rcases mem_cons.mp hz with rfl|hz
  .decide
  .rw[mem_singleton.mp hz];decide
 kind:=rfl
 co:=rfl
 gen:=rfl
 ne:=by decide
section
variable {P:Program} {w:World} {K:Frag} {mg:Str->N6} {base:Heap}
def Et (g:GbOk P w K mg base G) (KX:K.In h) (hN:h.Ns mainGlobals mg) {st} (k l:Nat) (S:FnScope ["letters","members"] ["letters","members"] (aj st)) (b:bo "as_they_come" st ["letters","members"]) (t:w4 K "as_they_come" st Pa) (hb:w5 K Pa) (hst:aF st=No l) (tab:lamTabs.lookup Pa=!((⟨l,31,l,74⟩:Pos),("as_they_come.<locals>.<lambda>":Str))) (ne:mainGlobals≠Pa) (hyk:(aj st).names.lookup (Str.ofString "letters")=!NameKind.cell) (hmk:(aj st).names.lookup (Str.ofString "members")=!NameKind.local) (hgl:glS (Bh ["letters","members"] st k G) "sorted"=true) (hno:G.no "sorted"=true):
  Df P w K mg base "as_they_come" (k+1) (aC 2 2 (Es (ab (va 1) λ_=>![]) lcF 0)):=
 Ic g KX hN k S b t hb hst tab ne Np rfl rfl rfl hyk hmk (!5) (!5) (λ_=>rfl) (λ_ _ _ _ _ _=>rfl) (λX h1 h2=>
  zH (px_cons (pp_ix (pp_ix (mL 1 (by rw[h1];rfl) (by rw[h2];exact .inr (.inr rfl))) (mL 0 (by rw[h1];rfl) (by rw[h2];exact .inl rfl))) pp_int) (px_cons (mL 0 (by rw[h1];rfl) (by rw[h2];exact .inl rfl)) uK))) hgl hno
end
def cons_in {K:Frag} (hn:K.lookup Pa=none) (X:Frag.In ((Pa,o)::K) h):K.In h/\h.get? Pa=!o:=by
 refine⟨λb ob e=>X b ob ?_,X Pa o ?_⟩;all_goals grind
def tabs_of {K} (hL:lamTabs=[(Pa,z)]) (hn:K.lookup Pa=none) (X:K.In h) (hP:h.get? Pa=some {cls:=.none,data:=.fields #[]}) (hc:PySem.W.codeHdIn K c0 Pa=true):qC K h:=λb y e=>by
 rw[hL,List.lookup_cons]at e;cases q:b==Pa with
 |true=>
  rw[eq_of_beq q];exact⟨hP,hn,((PySem.W.codeHd_of_K X hc).tab hP).isCodeTable⟩
 |false=>rw[q]at e;cases e
def cn_3str {K} (X:K.In h) (hN:h.Ns mainGlobals mg) (t:∃ (a:Addr) (od:Option Addr) (n:Nat) (sl:Array (N6)) (t0:Tok) (t1:Tok) (t2:Tok),nsIn K mainGlobals x=!(!(.ref a))/\K.lookup a=!⟨.type "tuple",od,.seq #[.str y t0,.str z t1,.str y3 t2] n,sl⟩):Cn K mg x (.tup [.str y,.str z,.str y3]):=by
 let⟨a,od,n,sl,t0,t1,t2,e,l⟩:=t;refine⟨.ref a,_,PySem.W.mg_of X hN e,rfl,λH=>⟨a,[.str y,.str z,.str y3],rfl,.inr ⟨_,_,n,l,rfl,rfl,?_,?_⟩,⟨_,_,rfl,rfl,⟨_,_,rfl,rfl,⟨_,_,rfl,rfl,rfl⟩⟩⟩⟩⟩
 .show 3<=sizeLine;decide
 .exact .cons ⟨t0,rfl⟩ (.cons ⟨t1,rfl⟩ (.cons ⟨t2,rfl⟩ .nil))
def  t4 (dP:ad) (iC:ad):Cl:=(ac (ifS (orQ (cC (trF (biF dD (ab (va 1) (ab (cT "tuple") af))))) (ag (aa (aD true) (biF dg (ab (va 1) af)) (cI 2)))) (ac (bW (evX (cB false) noV noV)) nxE) nxE) (ac (bW (evX (oE (clF iC (ab (aa ixD (va 1) (cI 0)) af)) (clF dP (ab (va 0) (ab (aa ixD (va 1) (cI 1)) af)))) noV noV)) nxE))
def  jF (eN:ad):Cl:=(ac (ifS (orQ (cC (trF (biF dD (ab (va 1) (ab (tpF (ab (cT "list") (ab (cT "tuple") af))) af))))) (ag (aa gtD (biF dg (ab (va 1) af)) (cD (.int 24))))) (ac noO' nxE) nxE) (ac (ifS (cC (trF (biF mO (ab (lsF (ah [2] (jX noV (va 1)) (gNm 2) tQ (clF eN (ab (va 0) (ab (va 2) af))))) af)))) (ac noO' nxE) nxE) nxE))
def  qe:Cl:=(ac (bW (evX (aa aE (va 1) (aa az (biF dg (ab (va 0) af)) (aa ixD (aa ixD (va 0) (va 1)) (cI 1)))) (mY (va 1) (aa az (biF dg (ab (va 0) af)) (aa ixD (aa ixD (va 0) (va 1)) (cI 1)))) noV)) nxE)
structure Lt where
 s:Int
 t:Nat
 w:N7
def K3 (h:(xs Y).bind wA=!ds):jX (enF xs) R Y=!ds:=by
 unfold jX orO enF;rw[h]
def qg {β:Type} {f} (xs:List β):lq (xs.map f)=(xs.zipIdx).map λp=>.tup [.int (p.2:Nat),f p.1]:=by
 unfold lq;rw[List.zipIdx_map,List.map_map];rfl
noncomputable def  aq (r:N7):D:=.lst (!8)
def mn {R L Sp} (h:R (vw Y)=!d) (f:lfD d=false) (hl:L (vw Y)=!ds) (fl:lfL ds=false) (hs:Sp (vw Y)=!e):evX R L Sp Y=!((.deep,e),Y):=by
 unfold evX orO i8 frX orO lfO fJ;grind
def kg:∀ {es:Oc},lfL es=true->extC .deep es=.deep
 |[],_=>rfl
 |d::es,h=>by
  rw[Bn,and_eq_true]at h;show extC (newCat .deep (extS d)) es=.deep;rw[show newCat .deep (extS d)=.deep by unfold extS newCat;rw[h.1];rfl];exact kg h.2
def kh (h0:ownL Y i=!(.deep,ds)) (hR:R (shv Y)=!(.lst es)) (lf:lfL es=true) (hl:ds.length+es.length<big):gx i R Y=!(.nx (Y.set i (!(.deep,.lst (ds++es))))):=by
 have e:qS i R Y=!(.nx (Y.set i (!(.deep,.lst (ds++es))))):=by
  unfold qS;rw[h0];simp only[Option.bind_some,hR];show(if ds.length+es.length<big then _ else _)=_;rw[if_pos hl,kg lf]
 unfold gx orO;rw[e]
def Eu (h0:ownL Y i=!(.deep,ds)) (hN:R (shv Y)=none) (hR:R (vw Y)=!(.lst es)) (lf:lfL es=true) (hl:ds.length+es.length<big):gx i R Y=!(.nx (Y.set i (!(.deep,.lst (ds++es))))):=by
 have e:qS i R Y=none:=by unfold qS;rw[h0];simp only[Option.bind_some,hN,Option.bind_none]
 unfold gx orO;rw[e];unfold DN;rw[h0];simp only[Option.bind_some,hR];show(if ds.length+es.length<big/\lfL es=true then _ else _)=_;rw[if_pos ⟨hl,lf⟩,kg lf]
end L2
namespace L2
open PySem PySem.Spec PyProof.Rows
section
variable {G F:Cl} {Y Y':Ev} {out:Option Out}
def q_set (h:g Y=!(s,Y')) (k:G (Y'.set i (!s))=out):ac (ao i g) G Y=out:=(am (bK h)).trans k
def vJ (h:f (vw Y)=!d) (k:G Y=out):ac (lj f) G Y=out:=(am (BA h)).trans k
def q_if0 (h:c (vw Y)=!false) (k:G Y=out):ac (ifS c F nxE) G Y=out:=(am ((da h).trans rfl)).trans k
def q_st (h:F Y=!(.nx Y')) (k:G Y'=out):ac F G Y=out:=(am h).trans k
def q_ret (h:g Y=!(s,Y')):ac (bW g) G Y=!(.rt s):=seqF_rt (aY h)
def K4 (I:Nat->Ev->Prop) (hJ:J (shv Y)=!ds) (h0:I 0 Y) (hs:∀ (i:Nat) (d:D) (Y:Ev),ds[i]?=!d->I i Y->∃Y',(tg d Y).bind F=!(.nx Y')/\I (i+1) Y') (k:∀Y',I ds.length Y'->G Y'=out):ac (frF J tg F) G Y=out:=by
 let⟨Y',e,i⟩:=jB I hJ h0 hs;exact(am e).trans (k _ i)
def nH {β:Type} {xs:List β} {mk} (I:Nat->Ev->Prop) (hJ:J (shv Y)=!(xs.map mk)) (h0:I 0 Y) (hs:∀ (i:Nat) (x:β) (Y:Ev),xs[i]?=!x->I i Y->∃Y',(tg (mk x) Y).bind F=!(.nx Y')/\I (i+1) Y') (k:∀Y',I xs.length Y'->G Y'=out):ac (frF J tg F) G Y=out:=K4 I hJ h0 (λi d Y hd hi=>by
 rw[getElem?_map]at hd;cases hx:xs[i]? with
 |none=>rw[hx]at hd;cases hd
 |some x=>rw[hx]at hd;cases hd;exact hs i x Y hx hi) (by rw[length_map];exact k)
def K5 {v:Nat->Int} (I:Nat->Ev->Prop) (hJ:J (shv Y)=!((!16).map λi=>D.int (v i))) (h0:I 0 Y) (hs:∀ (i:Nat) (Y:Ev),i<n->I i Y->∃Y',F (Y.set s (!(.sh,.int (v i))))=!(.nx Y')/\I (i+1) Y') (k:∀Y',I n Y'->G Y'=out):ac (frF J (eNm s) F) G Y=out:=by
 let⟨Y',e,i⟩:=rC I hJ h0 hs;exact(am e).trans (k _ i)
end
def jc:∀r:N7,bb (!8)=!(r.map λ(k:Nat)=>(k:Int))
 |[]=>rfl
 |k::r=>by
  show(bb (!8)).bind (λxs=>!((k:Int)::xs))=_;rw[jc r];rfl
def Ew {r:N7} (h:r.Perm (!16)):eE (r.map λ(k:Nat)=>(k:Int))=(!16).map λ(k:Nat)=>(k:Int):=by
 refine(Az (h.symm.map _) ?_).symm;rw[List.pairwise_map];exact List.pairwise_lt_range.imp λh=>by omega
def BN (h:r.Perm (!16)) (hn:n<=24):jw [aq r]=!((!16).map λ(k:Nat)=>D.int (k:Int)):=by
 show((bb (!8)).bind λns=>if ns.length<64 then !((eE ns).map D.int)else none)=_;rw[jc];simp only[Option.bind_some];have hl:r.length=n:=by rw[h.length_eq,length_range]
 rw[if_pos (by rw[length_map];omega),Ew h,List.map_map];rfl
def Ie {n:Nat} (hn:n<=24):lrD [.int (n:Int)]=!((!16).map λ(k:Nat)=>D.int (k:Int)):=by
 show(if inR (n:Int)/\(n:Int)<1000000 then !(jq 0 (n:Int).toNat)else none)=_;rw[if_pos ⟨mj (!1),by omega⟩,Int.toNat_natCast,Bq]
def jd:∀r:N7,okL (!8)=true/\aQ (!8)=0
 |[]=>⟨rfl,rfl⟩
 |k::r=>⟨by show(true&&okL _)=true;rw[(jd r).1];rfl,by show max 0 (aQ _)=0;rw[(jd r).2];rfl⟩
def rG (neg:Bool) (h2:okE d=true) (h3:dep d<=50) (h4:GD d d=true) (h1:aZ d=false):aD neg d d=!(.bl (not neg)):=by
 unfold aD jt;rw[show(aZ d&&aZ d&&zc (toV d) (toV d))=false by rw[h1];rfl,if_neg (!5),h2,h4,decide_eq_true h3,if_pos (by rfl),sJ _ h2];cases neg<;>rfl
def Ig (neg:Bool) (r:N7):aD neg (aq r) (aq r)=!(.bl (not neg)):=rG neg (jd r).1 (by show aQ _+1<=50;rw[(jd r).2];decide) rfl rfl
def jG (h:L Y=!ds):liG xs L Y=!(.lst ds):=by
 unfold liG orO lsF;have:(xs Y).bind noD=none:=by cases xs Y<;>rfl
 grind
def Nq (hn:n<=24) (h:ys Y=![.int (n:Int)]):orO (lrF ys) zs Y=!((!16).map λ(k:Nat)=>D.int (k:Int)):=by
 have:lrF ys Y=!((!16).map λ(k:Nat)=>D.int (k:Int)):=by
  unfold lrF;rw[h];exact Ie hn
 unfold orO;rw[this]
def  Wide (ps:N0):Prop:=∀p∈ps,∀k∈p,1<=k.2
def FI (o:N2) (Y:Ev):shv (o::Y)=Ab o::shv Y:=rfl
@[simp] theorem Ih (a b c d:D):bx (![a,b,c,d])=![a,b,c,d]:=dE (show 4<big by decide)
@[simp] theorem L5 (a b c d e f g h i j:D):bx (![a,b,c,d,e,f,g,h,i,j])=![a,b,c,d,e,f,g,h,i,j]:=dE (show 10<big by decide)
section
variable {α:Type} {G F:Cl} {Y Y':Ev} {out:α->Option Out} {P:α->Prop}
def t5 (h:F Y=!(.nx Y')) (k:∃a,G Y'=out a/\P a):∃a,ac F G Y=out a/\P a:=k.imp λ_ q=>⟨(am h).trans q.1,q.2⟩
def bZ (h:g Y=!(s,Y')) (k:∃a,G (Y'.set i (!s))=out a/\P a):∃a,ac (ao i g) G Y=out a/\P a:=t5 (bK h) k
def K6 {c} (h:c (vw Y)=!false) (k:∃a,G Y=out a/\P a):∃a,ac (ifS c F nxE) G Y=out a/\P a:=t5 ((da h).trans rfl) k
def oO {b:Bool} (h:c (vw Y)=!b) (k1:∃Y',(if b then F Y else F' Y)=!(.nx Y')/\∃a,G Y'=out a/\P a):∃a,ac (ifS c F F') G Y=out a/\P a:=by
 let⟨Y',e,k⟩:=k1;cases b with
 |true=>exact t5 ((ifS_t h).trans e) k
 |false=>exact t5 ((da h).trans e) k
def x_rng {v:Nat->Int} (I:Nat->Ev->Prop) (hJ:J (shv Y)=!((!16).map λi=>D.int (v i))) (h0:I 0 Y) (hs:∀ (i:Nat) (Y:Ev),i<n->I i Y->∃Y',F (Y.set s (!(.sh,.int (v i))))=!(.nx Y')/\I (i+1) Y') (k:∀Y',I n Y'->∃a,G Y'=out a/\P a):∃a,ac (frF J (eNm s) F) G Y=out a/\P a:=by
 let⟨Y',e,i⟩:=rC I hJ h0 hs;exact t5 e (k _ i)
def x_for {β:Type} {xs:List β} {mk} (I:Nat->Ev->Prop) (hJ:J (shv Y)=!(xs.map mk)) (h0:I 0 Y) (hs:∀ (i:Nat) (x:β) (Y:Ev),xs[i]?=!x->I i Y->∃Y',(tg (mk x) Y).bind F=!(.nx Y')/\I (i+1) Y') (k:∀Y',I xs.length Y'->∃a,G Y'=out a/\P a):∃a,ac (frF J tg F) G Y=out a/\P a:=by
 let⟨Y',e,i⟩:=jB I hJ h0 (λi d Y hd hi=>by
  rw[getElem?_map]at hd;cases hx:xs[i]? with
  |none=>rw[hx]at hd;cases hd
  |some x=>rw[hx]at hd;cases hd;exact hs i x Y hx hi)
 rw[length_map]at i;exact t5 e (k _ i)
def nI {P:Ev->Prop} (h:P Y):∃a,nxE Y=!(.nx a)/\P a:=⟨Y,rfl,h⟩
def qh {P:Ev->Prop} (h:F' Y=!(.nx Y')) (p:P Y'):∃a,ac F' nxE Y=!(.nx a)/\P a:=t5 h (nI p)
end
noncomputable abbrev dp (d:D):N2:=!(.deep,d)
noncomputable abbrev sn (d:D):N2:=!(.sh,d)
noncomputable abbrev iN (n:Nat):D:=.int (n:Int)
abbrev Fn:=List D->Option Sl
abbrev Fv:=Vv->Option D
abbrev Fx:=Vv->Option (List D)
abbrev evV (R:Fv):=evX R noV noV
abbrev evC (f:Fn) (xs:Fx):=evX (clF f xs) noV (fCl f xs)
abbrev evE:=evX (lsF (dpF af)) (dpF af) (fLs af)
abbrev jR (xs:Fx):=jX (r1F xs) (biF noD xs)
abbrev rtF (g:NZ):=ac (bW g) nxE
abbrev x1 (a:Fv):Fx:=ab a af
abbrev x2 (a b:Fv):Fx:=ab a (x1 b)
abbrev x3 (a b c:Fv):Fx:=ab a (x2 b c)
abbrev x4 (a b c d:Fv):Fx:=ab a (x3 b c d)
abbrev x5 (a b c d e:Fv):Fx:=ab a (x4 b c d e)
abbrev x6 (a b c d e f:Fv):Fx:=ab a (x5 b c d e f)
abbrev lnF (a:Fv):Fv:=biF dg (x1 a)
def tr {α:Type} {P:α->Prop} {f g} (h:P g) (e:f=g:=by kernel_rfl):P f:=e▸h
def je:x1 a Y=ab a af Y:=rfl
def nJ:x2 a b Y=ab a (x1 b) Y:=rfl
def Ex:x3 a b c Y=ab a (x2 b c) Y:=rfl
noncomputable def  sB0:=And.intro @vw_o (And.intro @vw_nil (And.intro @vw_some (And.intro @vw_none (And.intro @map_some.{0,0} (And.intro @Option.map_none.{0,0} (And.intro @List.set_cons_succ.{0} (And.intro @List.set_cons_zero.{0} (And.intro @consX_a (And.intro @nilX_a (And.intro @va_a (And.intro @shAt_s (And.intro @shAt_0 (And.intro @shAt_1 (And.intro @Option.bind_some.{0,0} (And.intro @bin2_a (And.intro @biF_a (And.intro @clF_a (And.intro @fCl_a (And.intro @cI_a (And.intro @cS_a (And.intro @testB_a (And.intro @notQ_a (And.intro @trF_a (And.intro @andQ_a (And.intro @valO_some (And.intro @asB_bl (And.intro @truD_bl (And.intro @addD_ii (And.intro @subD_ii (And.intro @lsF_a (And.intro @dpF_a (And.intro @capL_1 (And.intro @capL_2 (And.intro @stepF_a (And.intro @wipe_cons (And.intro @wipe_nil (And.intro @gNm_a (And.intro @tQ_a (@if_true.{1})))))))))))))))))))))))))))))))))))))))
def sB:type_of%sB0:=sB0
end L2
namespace HD
open PySem PySem.W PyProof.Rows
noncomputable abbrev S0 (w:World) (os:OsState):Shared:=⟨boot_heap w.params,Array.mk [],boot_drawn,boot_toks,os⟩
def left_of {Ya:World->α} {F:World->OsState->Shared} (o:∀w:World,(fencedOpening treeTable p w N).map (λs=>(s.heap,s.gens,s.drawn,s.toks))=!(boot_heap w.params,Array.mk [],boot_drawn,boot_toks)) (sz:∀w:World,(boot_heap w.params).isNs mainGlobals=true/\(boot_heap w.params).objs.size=m₀/\(boot_heap w.params).nsMap mainGlobals "__annotations__"=ann) (rn:∀w os,topRun treeTable p w m₀ ann M (S0 w os) (topStub p)=!(F w os)) (le:M<=N) (lk:∀w os,((staticsOk (importedModules p.main.body) (boot_heap w.params) (F w os).heap&&namesBound p (F w os).heap&&gensDone (F w os)&&laidKept (boot_heap w.params) (F w os).heap),openSeen q loose (importedModules p.main.body) Xt true (F w os),Yf (F w os))=(true,openGood q loose,Ya w)):
  LeftO p q loose Xt Yf Ya N:=by
 intro w
 let⟨s,e,e'⟩:=Option.map_eq_some_iff.mp (o w)
 cases s with
 |mk h gs d k os=>
 simp only[Prod.mk.injEq]at e'
 let⟨a1,a2,a3,a4⟩:=e'
 subst a1 a2 a3 a4
 let⟨z1,z2,z3⟩:=sz w
 have l:=lk w os
 simp only[Prod.mk.injEq]at l
 let⟨l1,l2,l3⟩:=l
 have r:=topRun_mono (N-M) _ _ _ _ (rn w os)
 rw[show M+(N-M)=N from Nat.add_sub_cancel' le]at r
 have t:topFrom treeTable p w N (S0 w os)=!(F w os):=by
  unfold topFrom;rw[z2,z3];rw[r];simp only[z1];show(match(staticsOk (importedModules p.main.body) (boot_heap w.params) (F w os).heap&&namesBound p (F w os).heap&&gensDone (F w os)&&laidKept (boot_heap w.params) (F w os).heap)with|true=>_|false=>_)=_;rw[l1]
 unfold openEnds
 rw[e]
 show Option.map _ (topFrom treeTable p w N (S0 w os))=_
 rw[t]
 exact congrArg some (Prod.ext l2 l3)
noncomputable abbrev K7:=@PySem.W.Fast.tw10110043849684766642
noncomputable abbrev K8:=@PySem.W.Fast.tw14364793385576792824
noncomputable abbrev BQ:=@PySem.W.Fast.tw12563942051412417395
def K9:@segRunT=@K7:=PySem.W.Fast.te10110043849684766642
def La:@treeTable=@K8:=PySem.W.Fast.te14364793385576792824
def Ey:@execs=@BQ:=PySem.W.Fast.te12563942051412417395
noncomputable def  put:List Obj->Nat->BT->BT
 |[],_,t=>t
 |o::l,i,t=>put l (i+1) (t.ins i o)
def  toT (s:Shared):SharedT:=⟨put s.heap.objs.toList 0 .nil,s.heap.objs.size,s.heap.life,s.gens,s.drawn,s.toks,s.os⟩
noncomputable def  st1 (d:Shared):Option (Shared×Thread)->Shared
 |some (s,_)=>s
 |none=>d
noncomputable def  st2 (d:Shared):Option (Flow×Shared×Code×Pos)->Shared
 |some (_,s,_)=>s
 |none=>d
noncomputable def  st3 (d:SharedT):Option (Flow×SharedT×Code×Pos)->SharedT
 |some (_,s,_)=>s
 |none=>d
def of1 (h:o.map (·.2)=!t):o=!(st1 d o,t):=by
 cases o with
 |none=>cases h
 |some z=>cases h;rfl
def of2 (h:o.map (λr=>(r.1,r.2.2))=!(f,c,q)):o=!(f,st2 d o,c,q):=by
 cases o with
 |none=>cases h
 |some z=>let⟨a,b,x,y⟩:=z;cases h;rfl
def of3 (h:o.map (λr=>(r.1,r.2.2))=!(f,c,q)):o=!(f,st3 d o,c,q):=by
 cases o with
 |none=>cases h
 |some z=>let⟨a,b,x,y⟩:=z;cases h;rfl
section
variable (p:Program) (m₀:Nat) (ann:N6) (env:Env) (q pa pb:Pos) (k1 k2 k3:Nat)
noncomputable abbrev cd:Code:=.body (behindTheImports p) env
def  A (w:World) (os:OsState):Option (Shared×Thread):=topGo treeTable p w m₀ ann k1 (S0 w os) (topStub p)
def  SA (w:World) (os:OsState):Shared:=st1 (S0 w os) (A p m₀ ann k1 w os)
def  B (w:World) (os:OsState):Option (Flow×Shared×Code×Pos):=segRun treeTable p w m₀ ann 1 k2 (SA p m₀ ann k1 w os) (blockOf (behindTheImports p) env (cd p env) pa [topFrame q])
def  SB (w:World) (os:OsState):Shared:=st2 (S0 w os) (B p m₀ ann env q pa k1 k2 w os)
def  C (w:World) (os:OsState):Option (Flow×SharedT×Code×Pos):=K7 K8 p w m₀ ann 1 k3 (toT (SB p m₀ ann env q pa k1 k2 w os)) ⟨(BQ (behindTheImports p) env).wrap doneF deadEnd id id,cd p env,pb,[topFrame q]⟩
def Lb (w:World) (os:OsState):C p m₀ ann env q pa pb k1 k2 k3 w os=segRunT treeTable p w m₀ ann 1 k3 (toT (SB p m₀ ann env q pa k1 k2 w os)) (piecesOf (behindTheImports p) env (cd p env) pb [topFrame q]):=by
 unfold C piecesOf;rw[K9,La,Ey]
def  SC (w:World) (os:OsState):SharedT:=st3 (toT (S0 w os)) (C p m₀ ann env q pa pb k1 k2 k3 w os)
end
def run_of (hA:∀w os,(A p m₀ ann k1 w os).map (·.2)=!⟨denote treeTable (cd p env),cd p env,pa,[topFrame q]⟩) (hB:∀w os,(B p m₀ ann env q pa k1 k2 w os).map (λr=>(r.1,r.2.2))=!(.next,cd p env,pb)) (hT:∀w os,(toT (SB p m₀ ann env q pa k1 k2 w os)).abs=SB p m₀ ann env q pa k1 k2 w os) (hC:∀w os,(C p m₀ ann env q pa pb k1 k2 k3 w os).map (λr=>(r.1,r.2.2))=!(.next,cd p env,pc)) (hF:∀w s,topRun treeTable p w m₀ ann k4 s ⟨doneF .next,cd p env,pc,[topFrame q]⟩=!s) (w:World) (os:OsState):
  topRun treeTable p w m₀ ann (k1+(k2+(k3+k4))) (S0 w os) (topStub p)=some (SC p m₀ ann env q pa pb k1 k2 k3 w os).abs:=by
 have a:=of1 (d:=S0 w os) (hA w os)
 have b:=of2 (d:=S0 w os) (hB w os)
 have c:=of3 (d:=toT (S0 w os)) (hC w os)
 rw[Lb]at c
 have c:=segRun_of c
 rw[hT]at c
 rw[<-Lb]at c
 refine go_top a (piece_block b ?_)
 have k:=piece_app c (piece_nil (hF w _))
 rw[List.append_nil]at k
 exact k
end HD
namespace K16
open PySem PySem.Spec PyProof.Rows L2
abbrev Lts:=List (Int×Int)
noncomputable def  bP (ls:Lts) (a:Int):Int:=(ls.getD a.toNat (0,0)).2
def qi {α:Type} {p q r} (hd:∀a,p a=true->q a=false) (hr:∀a,r a=(p a||q a)):∀l:List α,(l.filter p++l.filter q).Perm (l.filter r)
 |[]=>.refl _
 |a::l=>by
  have ih:=qi hd hr l;have e:=hr a;cases hp:p a with
  |true=>
   have hq:=hd a hp;rw[hp,Bool.true_or]at e;rw[List.filter_cons_of_pos hp,List.filter_cons_of_neg (by rw[hq];decide),List.filter_cons_of_pos e];exact ih.cons a
  |false=>
   rw[hp,Bool.false_or]at e;rw[List.filter_cons_of_neg (by rw[hp];decide)];cases hq:q a with
   |true=>
    rw[List.filter_cons_of_pos hq,List.filter_cons_of_pos (by rw[e];exact hq)];exact List.perm_middle.trans (ih.cons a)
   |false=>
    rw[List.filter_cons_of_neg (by rw[hq];decide),List.filter_cons_of_neg (by rw[e,hq];decide)];exact ih
noncomputable def  ki (f:Int->Int) (l:N9) (n:Nat):N9:=(!16).flatMap λ(t:Nat)=>l.filter λa=>decide (f a=(t:Int))
def lC (f:Int->Int) (l:N9) (n:Nat):ki f l (n+1)=ki f l n++l.filter λa=>decide (f a=(n:Int)):=by
 unfold ki;rw[List.range_succ,List.flatMap_append];simp
def lD (h0:∀a∈l,0<=f a):∀n:Nat,(ki f l n).Perm (l.filter λa=>decide (f a<(n:Int)))
 |0=>by
  have e:(l.filter λa=>decide (f a<((0:Nat):Int)))=[]:=List.filter_eq_nil_iff.mpr λa ha=>by have:=h0 a ha;simp;omega
  rw[e];exact .refl _
 |n+1=>by
  rw[lC];refine((lD h0 n).append_right _).trans (qi (λa h=>?_) (λa=>?_) l)
  .have:=Oq h;exact decide_eq_false (!1)
  .rw[<-Bool.decide_or];exact decide_eq_decide.mpr (!1)
def  rH (f:Int->Int) (a b:Int):Prop:=HT.lexLt [f b,b] [f a,a]=false
def Ez (h:f a<f b):rH f a b:=by
 unfold rH;rw[HT.lexLt_cons,if_neg (!1)];exact decide_eq_false (!1)
def EA (h:f a=f b) (h2:a<=b):rH f a b:=by
 unfold rH;rw[HT.lexLt_cons,if_pos h.symm,HT.lexLt_cons];split
 .rfl
 grind
def yJ (h1:rH f a b) (h2:rH f b a):a=b:=by
 have:=q0 _ _ h2 h1;grind
def iR (hs:l.Pairwise (·<=·)):∀n:Nat,(ki f l n).Pairwise (rH f)
 |0=>.nil
 |n+1=>by
  rw[lC];refine List.pairwise_append.mpr ⟨iR hs n,?_,λa ha b hb=>?_⟩
  .refine((hs.sublist List.filter_sublist).imp_of_mem λ{a b} ha hb hab=>?_);have ea:=Oq (List.mem_filter.mp ha).2;have eb:=Oq (List.mem_filter.mp hb).2;exact EA (ea.trans eb.symm) hab
  .let⟨t,ht,ha⟩:=List.mem_flatMap.mp ha;have ea:=Oq (List.mem_filter.mp ha).2;have eb:=Oq (List.mem_filter.mp hb).2;have:=OD.mp ht;exact Ez (by rw[ea,eb];omega)
def kj (ns:N9):(eE ns).Perm ns:=List.mergeSort_perm _ _
def t6 (ns:N9):(eE ns).Pairwise (·<=·):=by
 have h:=List.pairwise_mergeSort (le:=λa b:Int=>decide (a<=b)) (λa b c h1 h2=>decide_eq_true (Int.le_trans (Oq h1) (Oq h2))) (λa b=>by
  rw[Bool.or_eq_true];rcases Int.le_total a b with h|h
  .exact .inl (decide_eq_true h)
  .exact .inr (decide_eq_true h)) ns
 grind [eE]
def  a7 (ls:Lts) (ms:N9):N9:=ki (bP ls) (eE ms) 10
def  bp (ls:Lts):Prop:=∀p∈ls,0<=p.2/\p.2<10
def qj (h:bp ls) (a:Int):0<=bP ls a/\bP ls a<10:=by
 unfold bP;rw[List.getD_eq_getElem?_getD];cases e:ls[a.toNat]? with
 |none=>exact⟨Int.le_refl _,by decide⟩
 |some p=>exact h p (OE e)
def iq (h:bp ls) (ms:N9):(a7 ls ms).Perm ms:=by
 refine(lD (λa _=>(qj h a).1) 10).trans ?_;have e:((eE ms).filter λa=>decide (bP ls a<((10:Nat):Int)))=eE ms:=List.filter_eq_self.mpr λa _=>decide_eq_true (qj h a).2;rw[e];exact kj ms
def w6 (h:bp ls) (h1:out.Perm ms) (h2:out.Pairwise (rH (bP ls))):out=a7 ls ms:=
 List.Perm.eq_of_pairwise (λa b _ _ x y=>yJ x y) h2 (iR (t6 ms) 10) (h1.trans (iq h ms).symm)
def  keyL (ls:Lts) (a:Int):D:=.tup [.int (bP ls a),.int a]
def w9 (ls:Lts) (a:Int):flt (keyL ls a)=[bP ls a,a]:=rfl
def getD_map' {α β:Type} (f:α->β) (l:List α) (h:i<l.length) (x:α) (y:β):(l.map f).getD i y=f (l.getD i x):=by grind
def BR (h:bp ls) (ms:N9):((plcK (ms.map (keyL ls))).map λj=>(ms.map D.int).getD j .non)=(a7 ls ms).map D.int:=by
 have hp:=ip (ms.map (keyL ls));have hs:=tY (ms.map (keyL ls));rw[length_map]at hp;have hlt:∀j∈plcK (ms.map (keyL ls)),j<ms.length:=λj hj=>OD.mp (hp.mem_iff.mp hj);have e1:((plcK (ms.map (keyL ls))).map λj=>(ms.map D.int).getD j .non)=((plcK (ms.map (keyL ls))).map λj=>ms.getD j 0).map D.int:=by
  rw[List.map_map];exact List.map_congr_left λj hj=>getD_map' D.int ms (hlt j hj) 0 .non
 rw[e1];congr 1;refine w6 h ?_ ?_
 .have:=hp.map λj=>ms.getD j 0;rw[bA]at this;exact this
 .refine List.pairwise_map.mpr (hs.imp_of_mem λ{a b} ha hb hab=>?_);rw[getD_map' (keyL ls) ms (hlt a ha) 0 .non,getD_map' (keyL ls) ms (hlt b hb) 0 .non,w9,w9]at hab;exact hab
end K16
namespace K16
open PySem PySem.Spec PyProof.Rows L2
def  nK (ay:Fn):Cl:=(ac (ifS (orQ (cC (trF (biF dD (x2 (va 0) (cT "tuple"))))) (orQ (ag (aa (aD true) (lnF (va 0)) (cI 2))) (ag (aa uO (aa ixD (va 0) (cI 0)) (cD (.tup [(.str "any"),(.str "come"),(.str "row")])))))) (rtF (evV (cB false))) nxE) (ac (ifS (orQ (cC (trF (biF dD (x2 (aa ixD (va 0) (cI 1)) (tpF (x2 (cT "list") (cT "tuple"))))))) (ag (aa (aD false) (lnF (aa ixD (va 0) (cI 1))) (cI 0)))) (rtF (evV (cB false))) nxE) (rtF (evX (biF mO (x1 (lsF (ah [2] (jX noV (aa ixD (va 0) (cI 1))) (gNm 2) tQ (clF ay (x3 (va 2) (cI 0) (aa bU (va 1) (cI 1)))))))) noV (fNo (x1 (lsF (ah [2] (jX noV (aa ixD (va 0) (cI 1))) (gNm 2) tQ (clF ay (x3 (va 2) (cI 0) (aa bU (va 1) (cI 1))))))))))))
def  eJ:Cl:=(ac (ao 1 evE) (ac (frY 0 (jX noV (va 0)) (eTp 2 (aL (eNm 2) (aL (eNm 3) gJ))) (ac (gx 1 (va 3)) nxE)) (ac (rtN 1) nxE)))
def  jH (aV gp:Fn):Cl:=(ac (ifS (orQ (cC (trF (biF dD (x2 (va 0) (tpF (x2 (cT "list") (cT "tuple"))))))) (cC (trF (biF mO (x1 (lsF (ah [2] (jX noV (va 0)) (gNm 2) tQ (clF gp (x2 (va 2) (va 1)))))))))) (rtF (evV (cB false))) nxE) (rtF (evV (aa (aD false) (liG (x1 (clF aV (x1 (va 0)))) (s1F (x1 (clF aV (x1 (va 0)))))) (liG (x1 (biF noD (x1 (va 1)))) (orO (lrF (x1 (va 1))) (l1F (x1 (biF noD (x1 (va 1)))))))))))
def  gO:Cl:=Es (ab (va 1) λ_=>![]) (tpF (x2 (aa ixD (aa ixD (va 1) (va 0)) (cI 1)) (va 0))) 0
def  gP (cu:Fn):Cl:=(ac (ifS (ag (aa (aD false) (va 1) (cS "any"))) (rtF (evX (lsF (dpF (x1 (liG (x1 (va 2)) (s1F (x1 (va 2))))))) (dpF (x1 (liG (x1 (va 2)) (s1F (x1 (va 2)))))) (fLs (x1 (frX (liG (x1 (va 2)) (s1F (x1 (va 2)))) (s1F (x1 (va 2))) (fNo (x1 (va 2)))))))) nxE) (ac (ao 3 (evV (ifF (ag (aa (aD false) (va 1) (cS "row"))) (va 2) (clF cu (x2 (va 0) (va 2)))))) (rtF (evX (lsF (ah [4] (jX noV (va 3)) (gNm 4) tQ (lsF (dpF (!20))))) (ah [4] (jX noV (va 3)) (gNm 4) tQ (lsF (dpF (!20)))) (fCo [4] (jX noV (va 3)) (gNm 4) tQ (frX (lsF (dpF (!20))) (dpF (!20)) (fLs (x1 (frX (va 4) noV noV)))))))))
noncomputable def  kdS:Nat->Str
 |0=>"any"
 |1=>"come"
 |_=>"row"
abbrev Gr:=Nat×List Nat
def  grD (g:Gr):D:=.tup [.str (kdS g.1),aq g.2]
def  gsD (gs:List Gr):D:=.lst (gs.map grD)
noncomputable def  ltD' (p:Int×Int):D:=.tup [.int p.1,.int p.2]
def  lsD' (ls:Lts):D:=.lst (ls.map ltD')
def  lvD (lv:List (N9)):D:=.lst (lv.map scD)
noncomputable def  bv (gs:List Gr):N7:=gs.flatMap (·.2)
structure Good (m:Nat) (gs:List Gr):Prop where
 pm:(bv gs).Perm (List.range m)
 ne:∀g∈gs,g.2≠[]
 kd:∀g∈gs,g.1<3
 le:m<=24
def BS (hg:g∈gs) (ha:a∈g.2):a∈bv gs:=List.mem_flatMap.mpr ⟨g,hg,ha⟩
def Good.lt (h:Good m gs) (hg:g∈gs) (ha:a∈g.2):a<m:=OD.mp (h.pm.mem_iff.mp (BS hg ha))
def Good.len (h:Good m gs):(bv gs).length=m:=by rw[h.pm.length_eq,length_range]
def jI:∀ {gs:List Gr},(∀g∈gs,g.2≠[])->gs.length<=(bv gs).length
 |[],_=>OF _
 |g::gs,h=>by
  have ih:=jI (gs:=gs) λx hx=>h x (Op _ hx);have:=List.length_pos_iff.mpr (h g Oo);show gs.length+1<=(g.2++bv gs).length;rw[length_append];omega
def vK (hg:g∈gs):g.2.length<=(bv gs).length:=by
 induction gs with
 |nil=>cases hg
 |cons x gs ih=>
  show g.2.length<=(x.2++bv gs).length;rw[length_append];rcases mem_cons.mp hg with rfl|h
  .omega
  .have:=ih h;omega
def xa (r:N7):seqD (aq r)=!(!8):=rfl
def xb (r:N7):dg [aq r]=!(.int (r.length:Int)):=by
 simp only[bX,xa,Option.bind_some,length_map]
def Ii {β:Type} {xs:List β} {mk} (I:Nat->Ev->Prop) (hJ:J (shv Y)=!(xs.map mk)) (h0:I 0 Y) (hs:∀ (i:Nat) (x:β) (Y:Ev),xs[i]?=!x->I i Y->∃Y',(tg (mk x) Y).bind F=!(.nx Y')/\I (i+1) Y') (k:∀Y',I xs.length Y'->G Y'=out):ac (frY j J tg F) G Y=out:=by
 have hs':∀ (i:Nat) (d:D) (Y:Ev),(xs.map mk)[i]?=!d->I i Y->∃Y',(tg d Y).bind F=!(.nx Y')/\I (i+1) Y':=λi d Y hd hi=>by
  rw[getElem?_map]at hd;cases hx:xs[i]? with
  |none=>rw[hx]at hd;cases hd
  |some x=>rw[hx]at hd;cases hd;exact hs i x Y hx hi
 let⟨Y',e,i⟩:=jA (xs.map mk) I _ h0 hs';rw[length_map]at i;have e':c6 J tg F Y=!(.nx Y'):=by unfold c6;rw[hJ];exact e
 refine(am ?_).trans (k _ i);unfold frY orO;rw[e']
def  vL (f:Fn):Prop:=∀ (g:Gr) (m:Nat),g.1<3->g.2≠[]->(∀a∈g.2,a<m)->g.2.length<=24->f [grD g,.int (m:Int)]=!(.deep,.bl true)
def EB {w} (hw:ge w):vL (aC 2 3 (nK w)):=λ⟨k,r⟩ m hk hne ha hl=>by
 have hs:av 3 [grD (k,r),.int (m:Int)]=[!(.sh,grD (k,r)),!(.sh,.int (m:Int)),none]:=rfl;have i1:ixD (grD (k,r)) (.int 1)=!(aq r):=rfl;have hm:ah [2] (jX noV (aa ixD (va 0) (cI 1))) (gNm 2) tQ (clF w (x3 (va 2) (cI 0) (aa bU (va 1) (cI 1)))) [!(grD (k,r)),!(.int (m:Int)),none]=!(r.map λ_=>.bl true):=by
  refine aw (xs:=r) (mk:=λ(k:Nat)=>D.int (k:Int)) (out:=λ_=>.bl true) (by simp only[sB,aR,i1,xa]) (λa h=>?_) (Ou hl (!5));have h1:=ha a h;have h2:(0:Int)<=(a:Int):=by omega
  have h3:(a:Int)<=(m:Int)-1:=by omega
  simp only[sB,hw (a:Int) 0 ((m:Int)-1),h2,h3,decide_true];rfl
 refine al rfl ?_;rw[hs];unfold nK;have h0:¬ (r.length:Int)=0:=by
  have:0<r.length:=List.length_pos_iff.mpr hne;omega
 refine q_if0 ?_ (q_if0 ?_ (q_ret (evX_lf ?_ rfl)))
 .rcases(show k=0\/k=1\/k=2 by have:k<3:=hk;omega)with rfl|rfl|rfl<;>rfl
 .simp only[sB,pV,jC,KL,i1,FC,Bo,show bV (aq r)=some "list"from rfl,List.any_cons,List.any_nil,Bp,xb];simp[show¬r=[]from hne]
 .simp only[sB,hm,fS r λ_=>true];simp
def  nL (f:Fn):Prop:=∀gs:List Gr,(bv gs).length<=24->f [gsD gs]=!(.deep,aq (bv gs))
def yK:nL (aC 1 4 eJ):=λgs h24=>by
 have hs:av 4 [gsD gs]=[!(.sh,gsD gs),none,none,none]:=rfl;refine al rfl ?_;rw[hs];unfold eJ;refine q_set (!14) ?_;refine Ii (xs:=gs) (mk:=grD) (λi Y=>∃o2 o3,Y=[!(.sh,gsD gs),!(.deep,aq (bv (gs.take i))),o2,o3]) ?_ ⟨none,none,rfl⟩ ?_ ?_
 .simp only[sB,FI,aR];rfl
 .rintro i g Y hg ⟨o2,o3,rfl⟩;have hi:i<gs.length:=(On.mp hg).1;have hl:(bv (gs.take i)).length+g.2.length<=24:=by
   have e:bv gs=bv (gs.take i)++(g.2++bv (gs.drop (i+1))):=by
    conv=>lhs;rw[<-List.take_append_drop i gs,List.drop_eq_getElem_cons hi]
    rw[(List.getElem?_eq_some_iff.mp hg).2];unfold bv;rw[List.flatMap_append,List.flatMap_cons]
   rw[e,length_append,length_append]at h24;omega
  refine⟨_,(am (kh (ds:=(bv (gs.take i)).map λ(k:Nat)=>D.int (k:Int)) (es:=g.2.map λ(k:Nat)=>D.int (k:Int)) rfl rfl ?_ ?_)).trans rfl,⟨!(.sh,.str (kdS g.1)),!(.sh,aq g.2),?_⟩⟩
  .exact br λd hd=>by let⟨p,_,rfl⟩:=Ox.mp hd;rfl
  .rw[length_map,length_map];exact Ou hl (!5)
  .rw[List.take_add_one,hg];have e:bv (gs.take i++(!g).toList)=bv (gs.take i)++g.2:=by
    unfold bv;rw[List.flatMap_append];simp
   rw[e];unfold aq;rw[List.map_append];rfl
 .rintro Y ⟨o2,o3,rfl⟩;rw[List.take_length];rfl
def BU (r:N7):lfL (!8)=true:=br λd hd=>by let⟨p,_,rfl⟩:=Ox.mp hd;rfl
def rJ (r:N9):lfL (r.map D.int)=true:=br λd hd=>by let⟨p,_,rfl⟩:=Ox.mp hd;rfl
def  sAre (f:Fn):Prop:=∀ (m:Nat) (gs:List Gr),Good m gs->f [gsD gs,.int (m:Int)]=!(.deep,.bl true)
def h_are {gl ig} (h1:nL gl) (h2:vL ig):sAre (aC 2 3 (jH gl ig)):=λm gs G=>by
 have hs:av 3 [gsD gs,.int (m:Int)]=[!(.sh,gsD gs),!(.sh,.int (m:Int)),none]:=rfl;have hfl:=G.len;have hle:=G.le;have hgl:=jI G.ne;have y:seqD (gsD gs)=!(gs.map grD):=rfl;have hm:ah [2] (jX noV (va 0)) (gNm 2) tQ (clF ig (x2 (va 2) (va 1))) [!(gsD gs),!(.int (m:Int)),none]=!(gs.map λ_=>.bl true):=by
  refine aw (xs:=gs) (mk:=grD) (out:=λ_=>.bl true) (by simp only[sB,aR,y]) (λg h=>?_) (Ou (show gs.length<=24 by omega) (!5));have e:=h2 g m (G.kd g h) (G.ne g h) (λa ha=>G.lt h ha) (by have:=vK h;omega);simp only[sB,e]
 have e1:=h1 gs (!1);have s1:s1F (x1 (clF gl (x1 (va 0)))) [!(gsD gs),!(.int (m:Int)),none]=!((List.range m).map λ(k:Nat)=>D.int (k:Int)):=by
  show(x1 (clF gl (x1 (va 0))) _).bind bN=_;simp only[sB,e1,jy (BN G.pm hle)]
 refine al rfl ?_;rw[hs];unfold jH;refine q_if0 ?_ (q_ret (evX_lf ?_ rfl))
 .simp only[sB,pV,jC,KL,FC,Bo,show bV (gsD gs)=some "list"from rfl,List.any_cons,List.any_nil,Bp,hm,fS gs λ_=>true];simp
 .simp only[sB];rw[jG s1,jG (Nq hle (by simp only[sB]))];exact Ig false (List.range m)
noncomputable def  izs (r:N7):N9:=r.map λ(k:Nat)=>(k:Int)
def Ij (r:N7):aq r=scD (izs r):=by
 unfold aq scD izs;rw[List.map_map];rfl
abbrev fbK:wp:=tpF (x2 (aa ixD (aa ixD (va 1) (va 0)) (cI 1)) (va 0))
def Lc {ls:Lts} {a:Nat} (h:a<ls.length):fbK [!(.int (a:Int)),!(lsD' ls)]=!(keyL ls (a:Int)):=by
 have e:ixD (lsD' ls) (.int (a:Int))=!(ltD' (ls.getD a (0,0))):=by
  have q:=aM (mk:=ltD') (xs:=ls) (i:=a) (x:=ls[a]) (getElem?_eq_getElem h);rw[List.getD_eq_getElem?_getD,getElem?_eq_getElem h];exact q
 have e2:ixD (ltD' (ls.getD a (0,0))) (.int 1)=!(.int (bP ls (a:Int))):=rfl;show tpF _ _=_;simp only[sB,jC,e,e2];rfl
def qk:∀ {r:N7},(∀a∈r,a<ls.length)->lB fbK (lsD' ls) (!8)=!((izs r).map (keyL ls))
 |[],_=>rfl
 |a::r,h=>by
  show(fbK [!(.int (a:Int)),!(lsD' ls)]).bind (λk=>(lB fbK (lsD' ls) (!8)).bind λks=>!(k::ks))=_;rw[Lc (h a mem_cons_self),qk λb hb=>h b (mem_cons_of_mem _ hb)];rfl
def yL (ls:Lts) (l:N9):cb (l.map (keyL ls)):=⟨[none,none],by simp,λd hd=>by
 let⟨a,_,rfl⟩:=Ox.mp hd;exact⟨_,rfl⟩⟩
def  BV (f:Fn):Prop:=∀ (ls:Lts) (r:N7),bp ls->(∀a∈r,a<ls.length)->r.length<=24->f [lsD' ls,aq r]=!(.deep,scD (a7 ls (izs r)))
def Ik:BV (aC 2 2 gO):=λls r hl ha h24=>by
 have hs:av 2 [lsD' ls,aq r]=[!_,!_]:=rfl;refine al rfl ?_;rw[hs];have e:yI (ab (va 1) λ_=>![]) fbK 0 [!(lsD' ls),!(aq r)]=!((a7 ls (izs r)).map D.int):=by
  show((!(lsD' ls)).bind λdy=>(lB fbK dy (!8)).bind λks=>if(!8).length<64/\cb ks then !((plcK ks).map λj=>(!8).getD j .non)else none)=_;rw[Option.bind_some,qk ha,Option.bind_some,if_pos ⟨by rw[length_map];omega,yL ls _⟩];have q:=BR hl (izs r);rw[show(izs r).map D.int=r.map λ(k:Nat)=>D.int (k:Int)by unfold izs;rw[List.map_map];rfl]at q;rw[q]
 refine q_ret (Y':=[!(.sh,lsD' ls),!(.sh,aq r)]) ?_;have e4:(λY=>fJ (yI (ab (va 1) λ_=>![]) fbK 0 Y)) (vw [!(.sh,lsD' ls),!(.sh,aq r)])=!(scD (a7 ls (izs r))):=by
  show fJ (yI (ab (va 1) λ_=>![]) fbK 0 [!(lsD' ls),!(aq r)])=_;rw[e];unfold fJ;rw[Option.bind_some,if_pos (rJ _)];rfl
 have e5:i8 (λY=>fJ (yI (ab (va 1) λ_=>![]) fbK 0 Y)) [!(.sh,lsD' ls),!(.sh,aq r)]=!((.deep,scD (a7 ls (izs r))),[!(.sh,lsD' ls),!(.sh,aq r)]):=by
  unfold i8;rw[e4];rfl
 unfold orO;rw[e5]
def  levG (ls:Lts) (g:Gr):List (N9):=if g.1=0 then[eE (izs g.2)]else if g.1=1 then(a7 ls (izs g.2)).map ([·])else(izs g.2).map ([·])
def t9 (h:r.length<=24):jw [aq r]=!((eE (izs r)).map D.int):=by
 show((bb (!8)).bind λns=>if ns.length<64 then !((eE ns).map D.int)else none)=_;rw[jc,Option.bind_some,if_pos (by rw[length_map];omega)];rfl
def BW {R L Sp} (h:R Y=!d) (f:lfD d=true):frX R L Sp Y=!d:=by
 unfold frX orO;simp only[h,lfO,Option.bind_some,f,if_true]
def rK {R L Sp} (h:R Y=!(.lst ds)) (hl:L Y=!ds) (fl:lfL ds=true):frX R L Sp Y=!(.lst ds):=by
 unfold frX orO;simp only[h,hl,lfO,fJ,Option.bind_some,rp,fl,if_true];rfl
def seq_sc (ns:N9):seqD (scD ns)=!(ns.map D.int):=rfl
def xc {ls d1 d2:D} {ns:N9} (hl:ns.length<=24) (hn:ns≠[]) (o4:N2):evX (lsF (ah [4] (jX noV (va 3)) (gNm 4) tQ (lsF (dpF (!20))))) (ah [4] (jX noV (va 3)) (gNm 4) tQ (lsF (dpF (!20)))) (fCo [4] (jX noV (va 3)) (gNm 4) tQ (frX (lsF (dpF (!20))) (dpF (!20)) (fLs (x1 (frX (va 4) noV noV)))))
  [!(.sh,ls),!(.sh,d1),!(.sh,d2),!(.sh,scD ns),none]=!((.deep,lvD (ns.map ([·]))),[!(.sh,ls),!(.sh,d1),!(.sh,d2),!(.sh,scD ns),none]):=by
 have big24:ns.length<big:=Ou hl (!5)
 have h1:ah [4] (jX noV (va 3)) (gNm 4) tQ (lsF (dpF (!20))) [!ls,!d1,!d2,!(scD ns),none]=!(ns.map λa=>.lst [.int a]):=by
  refine aw (xs:=ns) (mk:=D.int) (out:=λa=>.lst [.int a]) (by simp only[sB,aR,seq_sc]) (λa h=>?_) big24;simp only[sB]
 have h2:ah [4] (jX noV (va 3)) (gNm 4) tQ (frX (lsF (dpF (!20))) (dpF (!20)) (fLs (x1 (frX (va 4) noV noV)))) [!ls,!d1,!d2,!(scD ns),none]=!(ns.map λa=>.lst [.int a]):=by
  refine aw (xs:=ns) (mk:=D.int) (out:=λa=>.lst [.int a]) (by simp only[sB,aR,seq_sc]) (λa h=>?_) big24;have e:frX (lsF (dpF (!20))) (dpF (!20)) (fLs (x1 (frX (va 4) noV noV))) [!ls,!d1,!d2,!(scD ns),!(.int a)]=!(.lst [.int a]):=
   rK (by simp only[sB]) (by simp only[sB]) rfl
  simp only[sB,e]
 have e3:lvD (ns.map ([·]))=.lst (ns.map λa=>.lst [.int a]):=by unfold lvD;rw[List.map_map];rfl
 rw[e3]
 refine mn (d:=.lst (ns.map λa=>.lst [.int a])) (ds:=ns.map λa=>.lst [.int a]) ?_ rfl ?_ ?_ ?_
 .simp only[sB,h1]
 .simp only[sB,h1]
 .cases ns with
  |nil=>exact absurd rfl hn
  |cons a ns=>rfl
 .show(ah _ _ _ _ _ _).bind _=_;simp only[sB,h2]
def  sGL (f:Fn):Prop:=∀ (ls:Lts) (g:Gr),bp ls->g.1<3->g.2≠[]->(∀a∈g.2,a<ls.length)->g.2.length<=24->f [lsD' ls,.str (kdS g.1),aq g.2]=!(.deep,lvD (levG ls g))
def Nr {co} (hc:BV co):sGL (aC 3 5 (gP co)):=λls ⟨k,r⟩ hl hk hne ha h24=>by
 have hs:av 5 [lsD' ls,.str (kdS k),aq r]=[!(.sh,lsD' ls),!(.sh,.str (kdS k)),!(.sh,aq r),none,none]:=rfl;have hne':r≠[]:=hne;have h24':r.length<=24:=h24;have il:(izs r).length=r.length:=length_map _;have ine:izs r≠[]:=λz=>hne' (by
  have:=congrArg List.length z;rw[il]at this;exact List.length_eq_zero_iff.mp this)
 refine al rfl ?_;rw[hs];unfold gP;rcases(show k=0\/k=1\/k=2 by have:k<3:=hk;omega)with rfl|rfl|rfl
 .have s1:s1F (x1 (va 2)) [!(lsD' ls),!(.str (kdS 0)),!(aq r),none,none]=!((eE (izs r)).map D.int):=by
   show(x1 (va 2) _).bind bN=_;simp only[sB,jy (t9 h24')]
  refine seqF_rt ((ifS_t rfl).trans (q_ret (Y':=[!(.sh,lsD' ls),!(.sh,.str (kdS 0)),!(.sh,aq r),none,none]) ?_));show evX _ _ _ _=!((.deep,.lst [scD (eE (izs r))]),_);refine mn (d:=.lst [scD (eE (izs r))]) (ds:=[scD (eE (izs r))]) ?_ rfl ?_ rfl ?_
  .simp only[sB,consX_a (a:=liG _ _),jG s1];rfl
  .simp only[sB,consX_a (a:=liG _ _),jG s1];rfl
  .have e:=rK (Sp:=fNo (x1 (va 2))) (jG (xs:=x1 (va 2)) s1) s1 (rJ _);simp only[sB,KM,consX_a (a:=frX _ _ _),e];rfl
 .have e:=hc ls r hl ha h24';refine q_if0 rfl (q_set (s:=(.sh,scD (a7 ls (izs r)))) (Y':=[!(.sh,lsD' ls),!(.sh,.str (kdS 1)),!(.sh,aq r),none,none]) (evX_sh ?_ rfl rfl rfl rfl ?_) (q_ret (Y':=[!(.sh,lsD' ls),!(.sh,.str (kdS 1)),!(.sh,aq r),!(.sh,scD (a7 ls (izs r))),none]) ?_))
  .show(ifF _ _ _ [!(lsD' ls),!(.str (kdS 1)),!(aq r),none,none])=_;rw[Bk,show ag (aa (aD false) (va 1) (cS "row")) [!(lsD' ls),!(.str (kdS 1)),!(aq r),none,none]=some false from rfl];simp only[sB,Bool.false_eq_true,if_false,e]
  .show(ifF _ _ _ [!(lsD' ls),!(.str (kdS 1)),!(aq r),none,none])=_;rw[Bk,show ag (aa (aD false) (va 1) (cS "row")) [!(lsD' ls),!(.str (kdS 1)),!(aq r),none,none]=some false from rfl];simp only[sB,Bool.false_eq_true,if_false,e]
  .have cl:(a7 ls (izs r)).length=r.length:=by rw[(iq hl _).length_eq,il]
   exact xc (!1) (λz=>by rw[z]at cl;exact hne' (List.length_eq_zero_iff.mp cl.symm)) none
 .refine q_if0 rfl (q_set (s:=(.sh,scD (izs r))) (Y':=[!(.sh,lsD' ls),!(.sh,.str (kdS 2)),!(.sh,aq r),none,none]) (by rw[<-Ij];exact evX_sh rfl rfl rfl rfl rfl rfl) (q_ret (Y':=[!(.sh,lsD' ls),!(.sh,.str (kdS 2)),!(.sh,aq r),!(.sh,scD (izs r)),none]) ?_));exact xc (!1) ine none
end K16
namespace K16
open PySem PySem.Spec PyProof.Rows L2
def  gQ (cx:Fn):Cl:=(ac (ao 2 evE) (ac (frY 1 (jX noV (va 1)) (eTp 2 (aL (eNm 3) (aL (eNm 4) gJ))) (ac (gx 2 (clF cx (x3 (va 0) (va 3) (va 4)))) nxE)) (ac (rtN 2) nxE)))
def  rL:Cl:=(ac (ao 1 (evX noV noV dcN)) (ac (frF (jX (enF (x1 (va 0))) (biF noD (x1 (va 0)))) (eTp 2 (aL (eNm 2) (aL (eNm 3) gJ))) (ac (frF (jX noV (va 3)) (eNm 4) (ac (nw 1 (va 4) (evV (va 2)) (va 2)) nxE)) nxE)) (ac (rtN 1) nxE)))
def Il (h0:ja i k g Y=none) (h:Ay i k R Y=!o):nw i k g R Y=!o:=by unfold nw orO;rw[h0];exact h
abbrev Wd:=List Key×List D
noncomputable def  wD' (w:Wd):D:=.dct w.1 w.2
def  pu (n:Int) (w:Wd) (a:Int):Wd:=(fM w.1 (.inl a),fN w.1 w.2 (.inl a) (.int n))
def  gv (n:Int) (l:N9) (w:Wd):Wd:=l.foldl (pu n) w
def  kl:List (N9)->Nat->Wd->Wd
 |[],_,w=>w
 |l::lv,n,w=>kl lv (n+1) (gv (n:Int) l w)
def ql:∀ (lv:List (N9)) (l:N9) (n:Nat) (w:Wd),kl (lv++[l]) n w=gv ((n+lv.length:Nat):Int) l (kl lv n w)
 |[],l,n,w=>rfl
 |x::lv,l,n,w=>by
  show kl (lv++[l]) (n+1) _=_;rw[ql lv l (n+1)];show gv ((n+1+lv.length:Nat):Int) l _=gv ((n+(lv.length+1):Nat):Int) l _;rw[show n+1+lv.length=n+(lv.length+1)by omega];rfl
structure WOk (k:Nat) (w:Wd):Prop where
 len:w.1.length=w.2.length
 sz:w.1.length<=k
 lf:lfL w.2=true
def xf (h:WOk k w) (n a:Int):WOk (k+1) (pu n w a):=by
 have hl:=h.len;have hz:=h.sz;refine⟨?_,?_,Aw rfl h.lf⟩
 .show(fM w.1 (.inl a)).length=(fN w.1 w.2 _ _).length;unfold fM fN;split
  .rw[List.length_zipWith];omega
  .rw[length_append,length_append];show _+1=_+1;omega
 .show(fM w.1 (.inl a)).length<=k+1;unfold fM;split
  .omega
  .rw[length_append];show _+1<=_;omega
def iw:∀ {l:N9} {k:Nat} {w:Wd},WOk k w->WOk (k+l.length) (gv n l w)
 |[],k,w,h=>h
 |a::l,k,w,h=>by
  have:=iw (n:=n) (l:=l) (xf h n a);rw[show k+1+l.length=k+(a::l).length by rw[length_cons];omega]at this;exact this
def BX:∀ {lv:List (N9)} {n k:Nat} {w:Wd},WOk k w->WOk (k+lv.flatten.length) (kl lv n w)
 |[],n,k,w,h=>h
 |l::lv,n,k,w,h=>by
  have:=BX (lv:=lv) (n:=n+1) (iw (n:=(n:Int)) (l:=l) h);rw[show k+l.length+lv.flatten.length=k+(l::lv).flatten.length by rw[List.flatten_cons,length_append];omega]at this;exact this
def has_mem:oI ks k=true↔k∈ks:=by simp[Key,oI]
def rM:∀ {ks:List Key} {ds:Oc} {e:D},eu ks ds j=!e->eu ks (List.zipWith (λi x=>if i=k then d else x) ks ds) j=!(if j=k then d else e)
 |[],ds,e,h=>by cases ds<;>cases h
 |i::ks,[],e,h=>by cases h
 |i::ks,x::ds,e,h=>by
  have h':(if i=j then !x else eu ks ds j)=!e:=h;show(if i=j then !(if i=k then d else x)else eu ks (List.zipWith _ ks ds) j)=_;by_cases q:i=j
  .rw[if_pos q]at h'⊢;cases h';rw[q]
  .rw[if_neg q]at h'⊢;exact rM h'
def BY:∀ {ks:List Key} {ds:Oc},ks.length=ds.length->k∈ks->∃e,eu ks ds k=!e
 |[],_,_,h=>by cases h
 |i::ks,[],hl,h=>by cases hl
 |i::ks,x::ds,hl,h=>by
  show∃e,(if i=k then !x else eu ks ds k)=!e;by_cases q:i=k
  .rw[if_pos q];exact⟨x,rfl⟩
  .rw[if_neg q];rcases mem_cons.mp h with z|z
   .exact absurd z.symm q
   .exact BY (by rw[length_cons,length_cons]at hl;omega) z
def rN {k j:Key} {d:D}:∀ {ks:List Key} {ds:Oc},ks.length=ds.length->eu (ks++[k]) (ds++[d]) j=match eu ks ds j with
  |some e=>!e
  |none=>if k=j then !d else none
 |[],[],_=>rfl
 |[],_::_,h=>by cases h
 |_::_,[],h=>by cases h
 |i::ks,x::ds,h=>by
  show(if i=j then !x else eu (ks++[k]) (ds++[d]) j)=match(if i=j then !x else eu ks ds j)with
   |some e=>!e
   |none=>if k=j then !d else none
  by_cases q:i=j
  .rw[if_pos q,if_pos q]
  .rw[if_neg q,if_neg q];exact rN (by rw[length_cons,length_cons]at h;omega)
def  ua (lv:List (N9)):D:=wD' (kl lv 0 ([],[]))
def ok0:WOk 0 (([],[]):Wd):=⟨rfl,OF _,rfl⟩
def EC {R L Sp} (hw:WOk m w) (hm:m<=100) (hY:eB Y i=!(.deep,wD' w)) (hk:k (vw Y)=!(.int a)) (hR:R (vw Y)=!(.int n)):nw i k (evX R L Sp) R Y=!(.nx (Y.set i (!(.deep,wD' (pu n w a))))):=by
 have e0:evX R L Sp Y=!_:=evX_lf hR rfl;have o1:ownL Y i=none:=by unfold ownL;rw[hY];rfl
 refine Il ?_ ?_
 .unfold ja;rw[e0];show(ownL Y i).bind _=none;rw[o1];rfl
 .unfold Ay;rw[show DT Y i=some w by unfold DT;rw[hY];rfl,hR,hk];show(if lfL w.2=true/\w.1.length+1<big then _ else _)=_;rw[if_pos ⟨hw.lf,lt_of_le_of_lt (show w.1.length+1<=101 by have:=hw.sz;omega) (!5)⟩];rfl
def Im {lv:List (N9)} (h:∀l∈lv,l≠[]):lv.length<=lv.flatten.length:=by
 induction lv with
 |nil=>exact OF _
 |cons l lv ih=>
  have:=ih λx hx=>h x (Op _ hx);have:=List.length_pos_iff.mpr (h l Oo);rw[List.flatten_cons,length_append,length_cons];omega
def yM {l:N9} (h:l[i]?=!a):pu n (gv n (l.take i) w) a=gv n (l.take (i+1)) w:=by
 rw[List.take_add_one,h];unfold gv;grind
def yN {lv:List (N9)} (h:lv[i]?=!l):(lv.take i).flatten.length+l.length<=lv.flatten.length:=by
 have hi:=(On.mp h).1;have e:lv=lv.take i++(l::lv.drop (i+1)):=by
  conv=>lhs;rw[<-List.take_append_drop i lv,List.drop_eq_getElem_cons hi]
  rw[(List.getElem?_eq_some_iff.mp h).2]
 grind
def  Io (f:Fn):Prop:=∀lv:List (N9),lv.flatten.length<=24->lv.length<1000->f [lvD lv]=!(.deep,ua lv)
def Ld:Io (aC 1 5 rL):=λlv h24 hlv=>by
 refine al rfl ?_;refine q_set rfl ?_;refine nH (xs:=lv.zipIdx) (mk:=λp=>.tup [.int (p.2:Nat),scD p.1]) (λi Y=>∃o2 o3 o4,Y=[!_,!(.deep,wD' (kl (lv.take i) 0 ([],[]))),o2,o3,o4]) ?_ ⟨none,none,none,rfl⟩ ?_ ?_
 .have e:jX (enF (x1 (va 0))) (biF noD (x1 (va 0))) [!(lvD lv),none,none,none,none]=!((lv.zipIdx).map λp=>.tup [.int (p.2:Nat),scD p.1]):=by
   have q:enF (x1 (va 0)) [!(lvD lv),none,none,none,none]=!((lv.zipIdx).map λp=>.tup [.int (p.2:Nat),scD p.1]):=by
    show(seqD (lvD lv)).bind (λxs=>!(lq xs))=_;rw[show seqD (lvD lv)=some _ from rfl,Option.bind_some,qg]
   unfold jX orO;rw[q]
  exact e
 .rintro i ⟨l,n⟩ Y hx ⟨o2,o3,o4,rfl⟩;rw[List.getElem?_zipIdx]at hx;let⟨l',hl,e⟩:=Option.map_eq_some_iff.mp hx;rw[Nat.zero_add]at e;cases e;have tf:=yN hl;have w0:=BX (lv:=lv.take i) (n:=0) ok0;have nx:kl (lv.take (i+1)) 0 ([],[])=gv (i:Int) l (kl (lv.take i) 0 ([],[])):=by
   have hi:=(On.mp hl).1;rw[List.take_add_one,hl];show kl (lv.take i++[l]) 0 _=_;rw[ql,List.length_take,Nat.min_eq_left (Nat.le_of_lt hi),Nat.zero_add]
  refine x_for (λj Y=>∃o4,Y=[!_,!(.deep,wD' (gv (i:Int) (l.take j) (kl _ 0 _))),!(.sh,.int (i:Nat)),!_,o4]) rfl ⟨o4,rfl⟩ ?_ ?_
  .rintro j a Y ha ⟨o4,rfl⟩;have hj:j<l.length:=(On.mp ha).1;have w1:=iw (n:=(i:Int)) (l:=l.take j) w0;rw[List.length_take,Nat.min_eq_left (Nat.le_of_lt hj)]at w1;refine⟨_,(am (EC w1 (!1) rfl rfl rfl)).trans rfl,⟨!(.sh,.int a),?_⟩⟩;rw[yM ha];rfl
  .rintro Y ⟨o4,rfl⟩;rw[List.take_length,<-nx];exact nI ⟨_,_,_,rfl⟩
 .rintro Y ⟨o2,o3,o4,rfl⟩;rw[List.length_zipIdx,List.take_length];rfl
end K16
namespace K16
open PySem PySem.Spec PyProof.Rows L2
def  levs (ls:Lts) (gs:List Gr):List (N9):=gs.flatMap (levG ls)
def mo (r:N7):(izs r).length=r.length:=length_map _
def qm (l:N9):(l.map ([·])).flatten=l:=by
 induction l with
 |nil=>rfl
 |cons a l ih=>rw[List.map_cons,List.flatten_cons,ih];rfl
def B0 (h:bp ls) (g:Gr):(levG ls g).flatten.Perm (izs g.2):=by
 unfold levG;split
 .simp only[List.flatten_cons,List.flatten_nil,List.append_nil];exact kj _
 .split
  .rw[qm];exact iq h _
  .rw[qm]
def Ip (h:bp ls) (hg:g.2≠[]):∀l∈levG ls g,l≠[]:=λl hl=>by
 unfold levG at hl;split at hl
 .rw[mem_singleton.mp hl];intro z;have:=(kj (izs g.2)).length_eq;rw[z,mo]at this;exact hg (List.length_eq_zero_iff.mp this.symm)
 grind
def iA (h:bp ls):∀gs:List Gr,(levs ls gs).flatten.Perm (izs (bv gs))
 |[]=>.refl _
 |g::gs=>by
  show(levG ls g++levs ls gs).flatten.Perm (izs (g.2++bv gs));rw[List.flatten_append];unfold izs;rw[List.map_append];exact(B0 h g).append (iA h gs)
def xg (h:bp ls) (hg:∀g∈gs,g.2≠[]):∀l∈levs ls gs,l≠[]:=λl hl=>by
 let⟨g,h1,h2⟩:=List.mem_flatMap.mp hl;exact Ip h (hg g h1) l h2
def fU (h:bp ls) (hg:∀g∈gs,g.2≠[]):(levs ls gs).length<=(bv gs).length/\(levs ls gs).flatten.length=(bv gs).length:=by
 have e:=(iA h gs).length_eq;rw[mo]at e;exact⟨by rw[<-e];exact Im (xg h hg),e⟩
def km {gs:List Gr} (h:gs[i]?=!g):levs ls (gs.take (i+1))=levs ls (gs.take i)++levG ls g:=by
 rw[List.take_add_one,h];unfold levs;simp
def qo:(bv (gs.take i)).length<=(bv gs).length:=by
 conv=>rhs;rw[<-List.take_append_drop i gs]
 unfold bv;grind
def mq (h:c≠.sh):∀es:Oc,extC c es≠.sh
 |[]=>h
 |d::es=>mq (j8 c (extS d)) es
def ub (h:eB Y i=!(c,.lst ds)) (hc:c≠.sh):ownL Y i=!(c,ds):=by
 unfold ownL;rw[h];cases c with
 |sh=>exact absurd rfl hc
 |deep=>rfl
 |top=>rfl
def B3 (h0:eB Y i=!(c,.lst ds)) (hc:c≠.sh) (hR:R (shv Y)=!(.lst es)) (hl:ds.length+es.length<big):gx i R Y=!(.nx (Y.set i (!(extC c es,.lst (ds++es))))):=by
 have e:qS i R Y=!(.nx (Y.set i (!(extC c es,.lst (ds++es))))):=by
  unfold qS;rw[ub h0 hc];simp only[Option.bind_some,hR];show(if ds.length+es.length<big then _ else _)=_;rw[if_pos hl]
 unfold gx orO;rw[e]
def  yO (f:Fn):Prop:=∀ (m:Nat) (ls:Lts) (gs:List Gr),bp ls->ls.length=m->Good m gs->∃c,c≠Cat.sh/\f [lsD' ls,gsD gs]=!(c,lvD (levs ls gs))
def B4 (h0:eB Y i=!(c,.lst ds)) (hc:c≠.sh) (h:g Y=!(s,Y)) (hl:ds.length+1<big):i9 i g Y=!(.nx (Y.set i (!(newCat c s,.lst (ds++[s.2]))))):=by
 unfold i9;rw[ub h0 hc,h];show((ownL Y i).bind _)=_;rw[ub h0 hc];grind
def lt_big (h:n<=100):n<big:=Ou h (!5)
def mv (a b:List (N9)):lvD (a++b)=.lst (a.map scD++b.map scD):=by unfold lvD;rw[List.map_append]
def Iq {α β:Type} {out:α->Option Out} {P:α->Prop} {xs:List β} {mk} (I:Nat->Ev->Prop) (hJ:J (shv Y)=!(xs.map mk)) (h0:I 0 Y) (hs:∀ (i:Nat) (x:β) (Y:Ev),xs[i]?=!x->I i Y->∃Y',(tg (mk x) Y).bind F=!(.nx Y')/\I (i+1) Y') (k:∀Y',I xs.length Y'->∃a,G Y'=out a/\P a):∃a,ac (frY j J tg F) G Y=out a/\P a:=by
 have hs':∀ (i:Nat) (d:D) (Y:Ev),(xs.map mk)[i]?=!d->I i Y->∃Y',(tg d Y).bind F=!(.nx Y')/\I (i+1) Y':=λi d Y hd hi=>by
  rw[getElem?_map]at hd;cases hx:xs[i]? with
  |none=>rw[hx]at hd;cases hd
  |some x=>rw[hx]at hd;cases hd;exact hs i x Y hx hi
 let⟨Y',e,i⟩:=jA (xs.map mk) I _ h0 hs';rw[length_map]at i;have e':c6 J tg F Y=!(.nx Y'):=by unfold c6;rw[hJ];exact e
 refine t5 ?_ (k _ i);unfold frY orO;rw[e']
def Le {gl} (hg:sGL gl):yO (aC 2 5 (gQ gl)):=λm ls gs hl hm G=>by
 have hs:av 5 [lsD' ls,gsD gs]=[!(.sh,lsD' ls),!(.sh,gsD gs),none,none,none]:=rfl;have key:∃c,gQ gl [!(.sh,lsD' ls),!(.sh,gsD gs),none,none,none]=!(.rt (c,lvD (levs ls gs)))/\c≠Cat.sh:=by
  unfold gQ;refine bZ (s:=(.deep,.lst [])) (Y':=[!(.sh,lsD' ls),!(.sh,gsD gs),none,none,none]) (!14) ?_;refine Iq (xs:=gs) (mk:=grD) (λi Y=>∃c o3 o4,c≠Cat.sh/\Y=[!(.sh,lsD' ls),!(.sh,gsD gs),!(c,lvD (levs ls (gs.take i))),o3,o4]) rfl ⟨.deep,none,none,by simp,rfl⟩ ?_ ?_
  .rintro i g Y hx ⟨c,o3,o4,hc,rfl⟩;have gm:g∈gs:=OE hx;have hfl:=G.len;have hle:=G.le;have e:=hg ls g hl (G.kd g gm) (G.ne g gm) (λa ha=>by rw[hm];exact G.lt gm ha) (by have:=vK gm;omega);have n1:∀x∈gs.take (i+1),x.2≠[]:=λx hx=>G.ne x (List.mem_of_mem_take hx);have b1:=(fU hl n1).1;have b2:=qo (gs:=gs) (i:=i+1);rw[km hx,length_append]at b1;refine⟨_,(am (B3 (c:=c) (ds:=(levs ls (gs.take i)).map scD) (es:=(levG ls g).map scD) rfl hc ?_ ?_)).trans rfl,⟨extC c ((levG ls g).map scD),!(.sh,.str (kdS g.1)),!(.sh,aq g.2),mq hc _,?_⟩⟩
   .show clF gl _ [!(lsD' ls),!(gsD gs),_,!(.str (kdS g.1)),!(aq g.2)]=_;simp only[sB,e];rfl
   .rw[length_map,length_map];exact lt_big (!1)
   .rw[km hx,mv];rfl
  .rintro Y ⟨c,o3,o4,hc,rfl⟩;refine⟨c,?_,hc⟩;rw[List.take_length];rfl
 let⟨c,e,hc⟩:=key;exact⟨c,hc,al rfl (by rw[hs];exact e)⟩
end K16
namespace K16
open PySem PySem.Spec PyProof.Rows L2
def  rO (cz de cq:Fn) (y:Addr):InF:=(stI (ifS (cC (trF (clF cq (x2 (va 2) (lnF (va 1)))))) (ac noO' nxE) nxE) (qP y 0 "groups" (evX (lsF (ah [3,4] (jX noV (va 2)) (gTp 2 (aI (gNm 3) (aI (gNm 4) eI))) tQ (tpF (x2 (va 3) (liF (!20)))))) (ah [3,4] (jX noV (va 2)) (gTp 2 (aI (gNm 3) (aI (gNm 4) eI))) tQ (tpF (x2 (va 3) (liF (!20))))) (fCo [3,4] (jX noV (va 2)) (gTp 2 (aI (gNm 3) (aI (gNm 4) eI))) tQ (frX (tpF (x2 (va 3) (liF (!20)))) noV (fTp (x2 (frX (va 3) noV noV) (frX (liF (!20)) (l1F (!20)) (fNo (!20)))))))) (qP y 0 "level_letters" (evC de (x2 (va 1) (va 2))) (AV y 0 "level_numbers" "level_letters" cz Aj))))
def ED {R L Sp} (h:R Y=!d) (f:lfD d=false) (hl:L Y=none) (hs:Sp Y=!e):frX R L Sp Y=!e:=by
 unfold frX orO;simp only[h,hl,lfO,fJ,Option.bind_none,Option.bind_some,f,hs];rfl
def jJ (r:N7):mN [aq r]=!(!8):=rfl
def Ir (h:gs≠[]):lfL (gs.map grD)=false:=by
 cases gs with
 |nil=>exact absurd rfl h
 |cons g gs=>rfl
instance gwDec (p:Prop):Decidable p:=Classical.propDecidable p
def  gW (I:Addr->InF):Oc->Option (List (Str×D)):=λds=>if h:∃r,∀y,qQ 3 5 I y ds=!r then !(Classical.choose h)else none
def Iu (h:gW I ds=!r):∀y,qQ 3 5 I y ds=!r:=by
 unfold gW at h;split at h
 .rename_i q;cases h;exact Classical.choose_spec q
 .cases h
def Lf (h:∀y,qQ 3 5 I y ds=!r):gW I ds=!r:=by
 have q:∃r,∀y,qQ 3 5 I y ds=!r:=⟨r,h⟩;unfold gW;rw[dif_pos];have:=(Classical.choose_spec q 0).symm.trans (h 0);exact this
def  wFs (ls:Lts) (gs:List Gr):List (Str×D):=[("groups",gsD gs),("level_letters",lvD (levs ls gs)),("level_numbers",ua (levs ls gs))]
def  bu (ls:Lts) (gs:List Gr):D:=.obj "Wish" ["groups","level_letters","level_numbers"] [gsD gs,lvD (levs ls gs),ua (levs ls gs)]
def  B5 (g:Oc->Option (List (Str×D))):Prop:=∀ (m:Nat) (ls:Lts) (gs:List Gr),bp ls->ls.length=m->Good m gs->g [lsD' ls,gsD gs]=!(wFs ls gs)
def xh {fs} (h:g Y=!(s,Y)) (hi:eB Y i=!(.sh,.adr x)) (hl:fs.length<900):qP x i f g G Y fs=G Y (mX f s.2 fs):=by
 unfold qP;grind
def EF {ff:Fn} {fs} (hd:fs.lookup h=!d) (he:ff [d]=!s) (hi:eB Y i=!(.sh,.adr x)) (hl:fs.length<900):AV x i f h ff G Y fs=G Y (mX f s.2 fs):=by
 unfold AV;grind
def Iv {num lev are} (h1:Io num) (h2:yO lev) (h3:sAre are):B5 (gW (rO num lev are)):=λm ls gs hl hm G=>Lf λy=>by
 have hfl:=G.len;have hle:=G.le;have hgl:=jI G.ne;let⟨b1,b2⟩:=fU hl G.ne;let⟨c,hc,e2⟩:=h2 m ls gs hl hm G;have e1:=h1 (levs ls gs) (!1) (!1);have e3:=h3 m gs G;have len1:dg [lsD' ls]=!(.int (m:Int)):=by
  rw[<-hm];simp only[bX,show seqD (lsD' ls)=some (ls.map ltD')from rfl,Option.bind_some,length_map]
 show rO num lev are y [!(.sh,.adr y),!(.sh,lsD' ls),!(.sh,gsD gs),none,none] []=_;unfold rO;have c0:ifS (cC (trF (clF are (x2 (va 2) (lnF (va 1)))))) (ac noO' nxE) nxE [!(.sh,.adr y),!(.sh,lsD' ls),!(.sh,gsD gs),none,none]=!(.nx [!(.sh,.adr y),!(.sh,lsD' ls),!(.sh,gsD gs),none,none]):=by
  refine(da ?_).trans rfl;simp only[sB,len1,e3,Bool.not_true]
 unfold L2.stI;rw[c0];show qP y 0 "groups" _ _ _ _=_;have c1:ah [3,4] (jX noV (va 2)) (gTp 2 (aI (gNm 3) (aI (gNm 4) eI))) tQ (tpF (x2 (va 3) (liF (!20)))) [!(.adr y),!(lsD' ls),!(gsD gs),none,none]=!(gs.map grD):=by
  refine aw (xs:=gs) (mk:=grD) (out:=grD) rfl (λg hg=>?_) (lt_big (!1));show lh _ _ _ _ (.tup [.str (kdS g.1),aq g.2])=_;simp only[sB,FE,tH,wY,length_cons,List.length_nil,jC,tE,jJ];rfl
 have c2:ah [3,4] (jX noV (va 2)) (gTp 2 (aI (gNm 3) (aI (gNm 4) eI))) tQ (frX (tpF (x2 (va 3) (liF (!20)))) noV (fTp (x2 (frX (va 3) noV noV) (frX (liF (!20)) (l1F (!20)) (fNo (!20)))))) [!(.adr y),!(lsD' ls),!(gsD gs),none,none]=!(gs.map grD):=by
  refine aw (xs:=gs) (mk:=grD) (out:=grD) rfl (λg hg=>?_) (lt_big (!1));have e1:frX (va 3) noV noV [!(.adr y),!(lsD' ls),!(gsD gs),!(.str (kdS g.1)),!(aq g.2)]=!(.str (kdS g.1)):=BW rfl rfl;have e2:frX (liF (!20)) (l1F (!20)) (fNo (!20)) [!(.adr y),!(lsD' ls),!(gsD gs),!(.str (kdS g.1)),!(aq g.2)]=!(aq g.2):=rK (by simp only[sB,tE,jJ]) (by simp only[sB,FA,jJ]) (BU _);have e3:frX (tpF (x2 (va 3) (liF (!20)))) noV (fTp (x2 (frX (va 3) noV noV) (frX (liF (!20)) (l1F (!20)) (fNo (!20))))) [!(.adr y),!(lsD' ls),!(gsD gs),!(.str (kdS g.1)),!(aq g.2)]=!(grD g):=by
   refine ED (d:=grD g) ?_ rfl rfl ?_
   .simp only[sB,jC,tE,jJ];rfl
   .simp only[sB,Bj,consX_a (a:=frX _ _ _),e1,e2];rfl
  show lh _ _ _ _ (.tup [.str (kdS g.1),aq g.2])=_;simp only[sB,FE,tH,wY,length_cons,List.length_nil,e3]
 refine(xh (s:=(.deep,gsD gs)) ?_ rfl (!5)).trans ?_
 .cases hg:gs with
  |nil=>rfl
  |cons g0 g1=>
   rw[<-hg];refine mn (d:=gsD gs) (ds:=gs.map grD) (by simp only[sB,c1];rfl) rfl (by simp only[sB,c1]) (Ir (by rw[hg];simp)) ?_;show(ah _ _ _ _ _ _).bind _=_;simp only[sB,c2];rfl
 .have cv:clF lev (x2 (va 1) (va 2)) [!(.adr y),!(lsD' ls),!(gsD gs),none,none]=!(lvD (levs ls gs)):=by
   simp only[sB,e2]
  have fc:fCl lev (x2 (va 1) (va 2)) [!(.adr y),!(lsD' ls),!(gsD gs),none,none]=deepO (!(c,lvD (levs ls gs))):=by
   simp only[sB,e2]
  have ev:∃c',evC lev (x2 (va 1) (va 2)) [!(.sh,.adr y),!(.sh,lsD' ls),!(.sh,gsD gs),none,none]=!((c',lvD (levs ls gs)),[!(.sh,.adr y),!(.sh,lsD' ls),!(.sh,gsD gs),none,none]):=by
   cases c with
   |sh=>exact absurd rfl hc
   |deep=>exact⟨.deep,evX_call cv rfl rfl fc⟩
   |top=>exact⟨.sh,evX_sh cv rfl rfl fc rfl cv⟩
  let⟨c',ev⟩:=ev;refine(xh ev rfl (by show 1<900;decide)).trans ?_;refine(EF (d:=lvD (levs ls gs)) (s:=(.deep,ua (levs ls gs))) rfl e1 rfl (by show 2<900;decide)).trans ?_;rfl
end K16
namespace K16
open PySem PySem.Spec PyProof.Rows L2
def  At (w:Wd) (a n:Int):Prop:=eu w.1 w.2 (.inl a)=!(.int n)
def Lg (h:WOk k w) (n a:Int):At (pu n w a) a n:=by
 show eu (fM w.1 (.inl a)) (fN w.1 w.2 (.inl a) (.int n)) (.inl a)=_;unfold fM fN;by_cases q:oI w.1 (.inl a)=true
 .rw[if_pos q,if_pos q];let⟨e,he⟩:=BY h.len (has_mem.mp q);rw[rM he,if_pos rfl]
 .rw[if_neg q,if_neg q,rN h.len];cases he:eu w.1 w.2 (.inl a)with
  |none=>exact if_pos rfl
  |some e=>
   exfalso;refine q (has_mem.mpr ?_);clear q h;let⟨ks,ds⟩:=w;dsimp only at he⊢;induction ks generalizing ds with
   |nil=>cases ds<;>cases he
   |cons i ks ih=>
    cases ds with
    |nil=>cases he
    |cons x ds=>
     have he':(if i=Sum.inl a then !x else eu ks ds _)=!e:=he;by_cases q:i=Sum.inl a
     .rw[q];exact Oo
     .rw[if_neg q]at he';exact Op _ (ih _ he')
def Lh (h:WOk k w) (n:Int) (hv:At w b v) (ne:b≠a):At (pu n w a) b v:=by
 show eu (fM w.1 (.inl a)) (fN w.1 w.2 (.inl a) (.int n)) (.inl b)=_;unfold fM fN;by_cases q:oI w.1 (.inl a)=true
 .rw[if_pos q,if_pos q,rM hv,if_neg λz=>ne (Sum.inl.inj z)]
 .rw[if_neg q,if_neg q,rN h.len,show eu w.1 w.2 (.inl b)=some _ from hv]
def kn:∀ {l:N9} {k:Nat} {w:Wd},WOk k w->∀ {b v},At w b v->b ∉ l->At (gv n l w) b v
 |[],k,w,_,b,v,h,_=>h
 |a::l,k,w,hw,b,v,h,nb=>kn (l:=l) (xf hw n a) (Lh hw n h λz=>nb (z▸Oo)) λz=>nb (Op _ z)
def xi:∀ {l:N9} {k:Nat} {w:Wd},WOk k w->∀ {b},b∈l->At (gv n l w) b n
 |a::l,k,w,hw,b,h=>by
  by_cases hb:b∈l
  .exact xi (l:=l) (xf hw n a) hb
  .rcases mem_cons.mp h with rfl|h
   .exact kn (l:=l) (xf hw n b) (Lg hw n b) hb
   .exact absurd h hb
def uc:∀ {lv:List (N9)} {n k:Nat} {w:Wd},WOk k w->∀ {b v},At w b v->b ∉ lv.flatten->At (kl lv n w) b v
 |[],n,k,w,_,b,v,h,_=>h
 |l::lv,n,k,w,hw,b,v,h,nb=>by
  rw[List.flatten_cons,mem_append,not_or]at nb;exact uc (lv:=lv) (iw (n:=(n:Int)) (l:=l) hw) (kn hw h nb.1) nb.2
def B6:∀ {lv:List (N9)} {n k:Nat} {w:Wd},WOk k w->lv.flatten.Nodup->∀ {i:Nat} {l:N9} {b},lv[i]?=!l->b∈l->At (kl lv n w) b ((n+i:Nat):Int)
 |[],n,k,w,_,_,i,l,b,h,_=>by simp at h
 |x::lv,n,k,w,hw,nd,0,l,b,h,hb=>by
  rw[List.getElem?_cons_zero]at h;cases h;rw[List.flatten_cons]at nd;exact uc (lv:=lv) (iw (n:=(n:Int)) (l:=x) hw) (xi hw hb) λz=>(List.nodup_append.mp nd).2.2 b hb b z rfl
 |x::lv,n,k,w,hw,nd,i+1,l,b,h,hb=>by
  rw[List.getElem?_cons_succ]at h;rw[List.flatten_cons]at nd;have:=B6 (lv:=lv) (n:=n+1) (iw (n:=(n:Int)) (l:=x) hw) (List.nodup_append.mp nd).2.1 h hb;rw[show n+1+i=n+(i+1)by omega]at this;exact this
def xj (nd:lv.flatten.Nodup) {i:Nat} (h:lv[i]?=!l) (hb:b∈l):ixD (ua lv) (.int b)=!(.int (i:Int)):=by
 have:=B6 ok0 nd h hb (n:=0);rw[Nat.zero_add]at this;exact this
end K16
namespace K21
open PySem PySem.Spec PyProof.Rows L2
def B7 {α:Type} (k:α->N9) (L:List α):(L.mergeSort λa b=>not (HT.lexLt (k b) (k a))).Pairwise λa b=>HT.lexLt (k b) (k a)=false:=by
 refine(List.pairwise_mergeSort (λa b c h1 h2=>?_) (λa b=>?_) L).imp λh=>by simpa using h
 .simp only[Bool.not_eq_true']at h1 h2⊢;cases e:HT.lexLt (k c) (k a)with
  |false=>rfl
  |true=>rw[nk _ _ _ e h1]at h2;cases h2
 .cases e:HT.lexLt (k b) (k a)with
  |false=>rfl
  |true=>rw[qZ _ _ e];rfl
def qp {α:Type} {g} (hg:∀a,∃ds,g a=.tup ds) {L} (h64:L.length<64) (h:cb (L.map g)):
  ∃T:List α,T.Perm L/\T.Pairwise (λa b=>HT.lexLt (flt (g b)) (flt (g a))=false)/\bN [.lst (L.map g)]=!(T.map g):=by
 refine⟨L.mergeSort λa b=>not (HT.lexLt _ _),List.mergeSort_perm _ _,B7 (λa=>flt (g a)) L,?_⟩
 have e:oK (L.map g)=(L.mergeSort λa b=>not (HT.lexLt _ _)).map g:=(rc h ((List.mergeSort_perm _ _).map g) (List.pairwise_map.mpr (B7 (λa=>flt (g a)) L))).symm
 rw[<-e]
 cases L with
 |nil=>
  refine jy ?_;show(if([]:N9).length<64 then !((eE []).map D.int)else none)=_;rw[show eE []=[]from List.mergeSort_nil,show oK (List.map g [])=[]from List.mergeSort_nil];rfl
 |cons a L=>
  refine DW ?_ ?_
  .let⟨ds,e⟩:=hg a;rw[List.map_cons,e];rfl
  .show(if((a::L).map g).length<64/\cb ((a::L).map g)then !(oK ((a::L).map g))else none)=_;rw[if_pos ⟨by rw[length_map];exact h64,h⟩]
noncomputable abbrev Sd:=Int×Int
def  sdD (p:Sd):D:=.tup [.int p.1,.int p.2]
def  fdD (q:Sd×List Nat):D:=.tup [sdD q.1,wD q.2]
def ud:∀w:N7,bb (w.map λ(k:Nat)=>D.int (k:Int))=!(w.map λ(k:Nat)=>(k:Int))
 |[]=>rfl
 |k::w=>by
  show(bb (w.map λ(k:Nat)=>D.int (k:Int))).bind _=_;rw[ud w];rfl
def FJ (q:Sd×List Nat):pT (fdD q)=!([some 2,!q.2.length],[q.1.1,q.1.2]++q.2.map λ(k:Nat)=>(k:Int)):=by
 have a:jx (sdD q.1)=!(some 2,[q.1.1,q.1.2]):=rfl;have b:jx (wD q.2)=!(!q.2.length,q.2.map λ(k:Nat)=>(k:Int)):=by
  show(bb (q.2.map λ(k:Nat)=>D.int (k:Int))).bind _=_;rw[ud,Option.bind_some,length_map]
 show eZ [sdD q.1,wD q.2]=_;simp only[eZ,a,b,Option.bind_some,List.append_nil]
def B8 (q:Sd×List Nat):flt (fdD q)=[q.1.1,q.1.2]++q.2.map λ(k:Nat)=>(k:Int):=by unfold flt;rw[FJ]
def sort_sd (h:S.length<64):∃T:List Sd,T.Perm S/\T.Pairwise (λa b=>HT.lexLt [b.1,b.2] [a.1,a.2]=false)/\bN [.lst (S.map sdD)]=!(T.map sdD):=
 qp (g:=sdD) (λ_=>⟨_,rfl⟩) h ⟨[none,none],by decide,λd hd=>by
  let⟨p,_,rfl⟩:=Ox.mp hd;exact⟨[p.1,p.2],rfl⟩⟩
def EG (h:L.length<64) (hn:∀q∈L,q.2.length=n):∃T:List (Sd×List Nat),T.Perm L/\T.Pairwise (λa b=>HT.lexLt [b.1.1,b.1.2] [a.1.1,a.1.2]=false)/\bN [.lst (L.map fdD)]=!(T.map fdD):=by
 let⟨T,h1,h2,h3⟩:=qp (g:=fdD) (λ_=>⟨_,rfl⟩) h ⟨[some 2,!n],by simp,λd hd=>by
  let⟨q,hq,rfl⟩:=Ox.mp hd;exact⟨_,by rw[FJ,hn q hq]⟩⟩
 refine⟨T,h1,h2.imp λ{a b} z=>?_,h3⟩;rw[B8,B8,vb (a:=[b.1.1,b.1.2]) (b:=[a.1.1,a.1.2]) _ _ rfl]at z;by_cases c:[b.1.1,b.1.2]=[a.1.1,a.1.2]
 .rw[c];exact u9 _
 grind
def lx2 (a b c d:Int):HT.lexLt [a,b] [c,d]=decide (a<c\/(a=c/\b<d)):=by
 rw[HT.lexLt_cons,HT.lexLt_cons];by_cases h:a=c
 .rw[if_pos h];by_cases g:b=d
  .rw[if_pos g];refine(decide_eq_false ?_).symm;omega
  .rw[if_neg g];by_cases k:b<d
   .rw[decide_eq_true k];exact(decide_eq_true (.inr ⟨h,k⟩)).symm
   .rw[decide_eq_false k];exact(decide_eq_false (!1)).symm
 grind
def  rkd (r:Int) (p:Sd):Sd:=(p.1,p.2*r)
def yP (hr:0<=r) {S T:List Sd} {Q U:List (Sd×List Nat)} (h1:T.Perm S) (h2:T.Pairwise λa b=>HT.lexLt [b.1,b.2] [a.1,a.2]=false) (h3:U.Perm Q) (h4:U.Pairwise λa b=>HT.lexLt [b.1.1,b.1.2] [a.1.1,a.1.2]=false) (e:Q.map (·.1)=S.map (rkd r)):U.map (·.1)=T.map (rkd r):=by
 refine List.Perm.eq_of_pairwise (le:=λa b:Sd=>HT.lexLt [b.1,b.2] [a.1,a.2]=false) (λa b _ _ x y=>?_) (List.pairwise_map.mpr h4) (List.pairwise_map.mpr (h2.imp λ{a b} z=>?_)) ?_
 .have:=q0 _ _ y x;injection this with q1 q2;injection q2 with q2;exact Prod.ext q1 q2
 .rw[lx2]at z⊢;refine decide_eq_false λq=>?_;have z:=of_decide_eq_false z;rcases q with q|⟨q1,q2⟩
  .exact z (.inl q)
  .have q1:b.1=a.1:=q1;have q2:b.2*r<a.2*r:=q2;refine z (.inr ⟨q1,?_⟩);by_cases k:b.2<a.2
   .exact k
   .have:=Int.mul_le_mul_of_nonneg_right (show a.2<=b.2 by omega) hr;omega
 grind
noncomputable def  qq (W:List (N7)) (p:List Pk):List (N7):=(List.range p.length).flatMap λk=>W.map λw=>w++[k]
def  wds (rs:N0):List (N7):=rs.foldl qq [[]]
def jK (rs:N0) (p:List Pk):wds (rs++[p])=qq (wds rs) p:=by unfold wds;rw[List.foldl_append];rfl
noncomputable def  pkg (p:List Pk) (k:Nat):Pk:=p.getD k (true,0)
def  pstep (n k:Nat) (pk:Pk) (c:Sd):Sd:=((k:Int)*(n:Int)+(if pk.1 then c.1 else(n:Int)-1-c.1),if pk.1 then c.2 else -c.2)
def  pl:Nat->N0->N7->Sd->Sd
 |_,[],_,c=>c
 |_,_::_,[],c=>c
 |n,p::rs,k::w,c=>pl (n*p.length) rs w (pstep n k (pkg p k) c)
def pl_snoc:∀ {rs:N0} {w:N7} (n:Nat) (c:Sd) (p:List Pk) (k:Nat),w.length=rs.length->pl n (rs++[p]) (w++[k]) c=pstep (n*prod rs) k (pkg p k) (pl n rs w c)
 |[],[],n,c,p,k,_=>by show pstep n k _ c=pstep (n*1) k _ c;rw[Nat.mul_one]
 |[],_::_,_,_,_,_,h=>by cases h
 |_::_,[],_,_,_,_,h=>by cases h
 |q::rs,j::w,n,c,p,k,h=>by
  show pl (n*q.length) (rs++[p]) (w++[k]) (pstep n j (pkg q j) c)=pstep (n*(q.length*prod rs)) k (pkg p k) (pl (n*q.length) rs w (pstep n j (pkg q j) c));rw[pl_snoc _ _ _ _ (Nat.succ.inj h),Nat.mul_assoc]
def  fitW (s:Int):N0->N7->Bool
 |[],_=>true
 |_::_,[]=>true
 |p::rs,k::w=>decide (s<=(pkg p k).2)&&fitW s rs w
def nM:∀ {rs:N0} {w:N7} (p:List Pk) (k:Nat),w.length=rs.length->fitW s (rs++[p]) (w++[k])=(fitW s rs w&&decide (s<=(pkg p k).2))
 |[],[],p,k,_=>by show(decide _&&true)=(true&&_);rw[Bool.and_true,Bool.true_and]
 |[],_::_,_,_,h=>by cases h
 |_::_,[],_,_,h=>by cases h
 |q::rs,j::w,p,k,h=>by
  show(decide _&&fitW s (rs++[p]) (w++[k]))=((decide _&&fitW s rs w)&&_);rw[nM _ _ (Nat.succ.inj h),Bool.and_assoc]
def rev_ind {α:Type} {P:List α->Prop} (h0:P []) (h1:∀l a,P l->P (l++[a])) (l:List α):P l:=by
 have:∀l:List α,P l.reverse:=λl=>by
  induction l with
  |nil=>exact h0
  |cons a l ih=>rw[List.reverse_cons];exact h1 _ _ ih
 have z:=this l.reverse;grind
def wds_mem:∀ (rs:N0),∀w∈wds rs,w.length=rs.length/\∀q∈w.zip rs,q.1<q.2.length:=by
 refine rev_ind (λw hw=>?_) λrs p ih w hw=>?_
 .cases mem_singleton.mp hw;exact⟨rfl,λ_ h=>nomatch h⟩
 .rw[jK]at hw;let⟨k,hk,hw⟩:=List.mem_flatMap.mp hw;let⟨v,hv,rfl⟩:=Ox.mp hw;let⟨h1,h2⟩:=ih v hv;refine⟨by rw[length_append,length_append,h1];rfl,λq hq=>?_⟩;rw[List.zip_append h1]at hq;rcases mem_append.mp hq with hq|hq
  .exact h2 q hq
  .cases mem_singleton.mp hq;exact OD.mp hk
def rP:∀ (rs:N0),(wds rs).length=prod rs:=by
 refine rev_ind rfl λrs p ih=>?_;rw[jK,bL,<-ih];unfold qq;rw[List.length_flatMap];have:∀l:N7,(l.map λk=>((wds rs).map λw=>w++[k]).length).sum=(wds rs).length*l.length:=λl=>by
  induction l with
  |nil=>rfl
  |cons a l ih=>rw[List.map_cons,List.sum_cons,ih,length_map,length_cons,Nat.mul_succ,Nat.add_comm]
 grind
def  B9 (s:Int) (n:Nat) (p:List Pk) (S:List Sd):List Sd:=(List.range p.length).flatMap λk=>if s<=(pkg p k).2 then S.map (pstep n k (pkg p k))else[]
def  sds (s:Int) (n:Nat) (rs:N0):List Sd:=((wds rs).filter (fitW s rs)).map λw=>pl n rs w ((n:Int)-1,1)
def Cc (s:Int) (n:Nat) (rs:N0) (p:List Pk):sds s n (rs++[p])=B9 s (n*prod rs) p (sds s n rs):=by
 unfold sds B9;rw[jK];unfold qq;rw[List.filter_flatMap,List.map_flatMap];refine congrArg (λf=>List.flatMap f _) (funext λk=>?_);have e:((wds rs).map λw=>w++[k]).filter (fitW s (rs++[p]))=if s<=(pkg p k).2 then((wds rs).filter (fitW s rs)).map (λw=>w++[k])else[]:=by
  rw[List.filter_map];by_cases h:s<=(pkg p k).2
  .rw[if_pos h];refine congrArg _ (List.filter_congr λw hw=>?_);show fitW s (rs++[p]) (w++[k])=_;rw[nM _ _ (wds_mem rs w hw).1,decide_eq_true h,Bool.and_true]
  .rw[if_neg h];have:(wds rs).filter (fitW s (rs++[p])∘λw=>w++[k])=[]:=List.filter_eq_nil_iff.mpr λw hw=>by
    show¬fitW s (rs++[p]) (w++[k])=true;rw[nM _ _ (wds_mem rs w hw).1,decide_eq_false h,Bool.and_false];decide
   rw[this];rfl
 rw[e];by_cases h:s<=(pkg p k).2
 .rw[if_pos h,if_pos h,List.map_map,List.map_map];exact List.map_congr_left λw hw=>pl_snoc _ _ _ _ (wds_mem rs w (List.mem_filter.mp hw).1).1
 grind
def EH (s:Int) (n:Nat) (rs:N0):(sds s n rs).length<=prod rs:=by
 unfold sds;rw[length_map,<-rP];grind
end K21
namespace K21
open PySem PySem.Spec PyProof.Rows L2
def  gR (kt:Fn):Cl:=(ac (ao 4 evE) (ac (frF (jX (enF (x1 (va 0))) (biF noD (x1 (va 0)))) (eTp 2 (aL (eNm 5) (aL (eNm 6) gJ))) (ac (ifS (ag (aa leD (va 1) (aa ixD (va 6) (cI 1)))) (ac (ao 7 (evV (ifF (ag (aa (aD false) (aa ixD (va 6) (cI 0)) (cS "queue"))) (cI 1) (ngF (cI 1))))) (ac (gx 4 (lsF (ah [8,9] (jX noV (va 3)) (gTp 2 (aI (gNm 8) (aI (gNm 9) eI))) tQ (tpF (x2 (aa aE (aa az (va 5) (va 2)) (clF kt (x3 (aa ixD (va 6) (cI 0)) (va 2) (va 8)))) (aa az (va 7) (va 9))))))) nxE)) nxE) nxE)) (ac (rtN 4) nxE)))
def  jL (fl:Str->Str->Bool) (cm bE:Fn):Cl:=(ac (ao 3 (evC bE (x1 (slF (flF fl "passes" (va 0)) noP (c4 (va 2)))))) (ac (ao 4 (evX (lsF (dpF (x1 (tpF (x2 (aa bU (va 3) (cI 1)) (cI 1)))))) (dpF (x1 (tpF (x2 (aa bU (va 3) (cI 1)) (cI 1))))) (fLs (x1 (frX (tpF (x2 (aa bU (va 3) (cI 1)) (cI 1))) noV (fTp (x2 (frX (aa bU (va 3) (cI 1)) noV noV) (frX (cI 1) noV noV)))))))) (ac (frF (jX noV (slF (flF fl "passes" (va 0)) (c4 (va 2)) noP)) (eNm 5) (ac (ao 4 (evC cm (x4 (va 5) (va 1) (va 3) (va 4)))) (ac (ao 3 (evV (aa az (va 3) (lnF (va 5))))) nxE))) (rtF (evX (liG (!20) (s1F (!20))) (s1F (!20)) (fNo (!20)))))))
def  iS (bM iD aH:Fn):Cl:=(ac (lj (clF aH (x2 (va 0) (va 1)))) (ac (ao 3 (evC iD (x2 (va 1) (va 2)))) (rtF (evX (lsF (ah [4,5] (jX noV (clF bM (x3 (va 0) (aa ixD (aa ixD (va 1) (va 2)) (cI 0)) (aa ixD (aa ixD (va 1) (va 2)) (cI 1))))) (gTp 2 (aI (gNm 4) (aI (gNm 5) eI))) tQ (tpF (x2 (va 4) (aa az (va 5) (va 3)))))) (ah [4,5] (jX noV (clF bM (x3 (va 0) (aa ixD (aa ixD (va 1) (va 2)) (cI 0)) (aa ixD (aa ixD (va 1) (va 2)) (cI 1))))) (gTp 2 (aI (gNm 4) (aI (gNm 5) eI))) tQ (tpF (x2 (va 4) (aa az (va 5) (va 3))))) (fCo [4,5] (jX noV (clF bM (x3 (va 0) (aa ixD (aa ixD (va 1) (va 2)) (cI 0)) (aa ixD (aa ixD (va 1) (va 2)) (cI 1))))) (gTp 2 (aI (gNm 4) (aI (gNm 5) eI))) tQ (frX (tpF (x2 (va 4) (aa az (va 5) (va 3)))) noV (fTp (x2 (frX (va 4) noV noV) (frX (aa az (va 5) (va 3)) noV noV)))))))))
def  bg (cU:Fn):Cl:=(ac (frF (jX noV (clF cU (x3 (va 0) (va 1) (va 2)))) (eNm 4) (ac (ifS (orQ (ag (aa (iE false) (va 3) cN)) (ag (aa gtD (va 4) (va 3)))) (ac (rtN 4) nxE) nxE) nxE)) (rtF (evV cN)))
def vM (S:List Sd):lfL (S.map sdD)=true:=br λd hd=>by
 let⟨p,_,rfl⟩:=Ox.mp hd;rfl
def Cd (h:p[k]?=!a):pkg p k=a:=by unfold pkg;rw[List.getD_eq_getElem?_getD,h];rfl
def yQ {S:List Sd} (i:Nat):((List.range i).flatMap λk=>if s<=(pkg p k).2 then S.map (pstep n k (pkg p k))else[]).length<=i*S.length:=by
 induction i with
 |zero=>exact Nat.le_of_eq (by simp)
 |succ i ih=>
  rw[List.range_succ,List.flatMap_append,length_append,Nat.succ_mul];have:(List.flatMap (λk=>if s<=(pkg p k).2 then S.map (pstep n k (pkg p k))else[]) [i]).length<=S.length:=by
   rw[List.flatMap_cons,List.flatMap_nil,List.append_nil];split
   .rw[length_map];exact OF _
   .exact Nat.zero_le _
  omega
def  sSidesB (f:Fn):Prop:=∀ (p:List Pk) (s:Int) (n:Nat) (S:List Sd),p.length<=6->n<=1000->S.length<=1000->f [tpD p,.int s,.int (n:Int),.lst (S.map sdD)]=!(.deep,.lst ((B9 s n p S).map sdD))
def h_sidesB {la} (hl:p0 la):sSidesB (aC 4 10 (gR la)):=λp s n S hp hn hS=>by
 have hs:av 10 [tpD p,.int s,.int (n:Int),.lst (S.map sdD)]=[!(.sh,tpD p),!(.sh,.int s),!(.sh,.int (n:Int)),!(.sh,.lst (S.map sdD)),none,none,none,none,none,none]:=rfl;refine al rfl ?_;rw[hs];unfold gR;refine q_set (!14) (nH (xs:=p.zipIdx) (mk:=λq=>.tup [.int (q.2:Nat),pkD q.1])
  (λi Y=>∃o5 o6 o7,Y=[!(.sh,tpD p),!(.sh,.int s),!(.sh,.int (n:Int)),!(.sh,.lst (S.map sdD)),!(.deep,.lst (((List.range i).flatMap λk=>if s<=(pkg p k).2 then S.map (pstep n k (pkg p k))else[]).map sdD)),o5,o6,o7,none,none]) ?_ ⟨none,none,none,rfl⟩ ?_ ?_)
 .refine K3 ?_;show(seqD (tpD p)).bind (λxs=>!(lq xs))=_;rw[show seqD (tpD p)=some (p.map pkD)from rfl,Option.bind_some,qg]
 .rintro i ⟨⟨b,w⟩,j⟩ Y hq ⟨o5,o6,o7,rfl⟩;obtain⟨hq1,hq2⟩:p[i]?=!(b,w)/\i=j:=by
   rw[List.getElem?_zipIdx]at hq;cases e:p[i]? with
   |none=>rw[e]at hq;cases hq
   |some a=>rw[e]at hq;cases hq;exact⟨rfl,by simp⟩
  subst hq2;have hi:i<p.length:=(On.mp hq1).1;have pk:=Cd hq1;have x0:ixD (pkD (b,w)) (.int 0)=!(.str (kd b)):=ly _ _;have x1:ixD (pkD (b,w)) (.int 1)=!(.int w):=pW _ _ _;have e1:((List.range (i+1)).flatMap λk=>if s<=(pkg p k).2 then S.map (pstep n k (pkg p k))else[])=((List.range i).flatMap λk=>if s<=(pkg p k).2 then S.map (pstep n k (pkg p k))else[])++(if s<=w then S.map (pstep n i (b,w))else[]):=by
   rw[List.range_succ,List.flatMap_append];simp[pk]
  have hlen:=yQ (s:=s) (n:=n) (p:=p) (S:=S) i;have hlen2:i*S.length<=6*1000:=Nat.mul_le_mul (!1) hS;rw[e1];generalize ((List.range i).flatMap λk=>if s<=(pkg p k).2 then S.map (pstep n k (pkg p k))else[])=T at hlen;by_cases hw:s<=w
  .rw[if_pos hw];obtain⟨t,ht,ht1⟩:∃t:Int,(if b then 1 else -1)=t/\(t=1\/t= -1):=⟨_,rfl,by cases b<;>simp⟩;have mi:az (.int (i:Int)) (.int (n:Int))=!(.int ((i:Int)*(n:Int))):=dF (!1) (!1);refine oO (b:=true) (by simp[vw_o,x1,hw]) ⟨_,q_set (evX_lf (d:=.int t) ?_ rfl) (q_st (kh (ds:=T.map sdD) (es:=(S.map (pstep n i (b,w))).map sdD) rfl ?_ (vM _) ?_) rfl),⟨_,rfl,⟨!(.sh,.int (i:Int)),!(.sh,pkD (b,w)),!(.deep,.int t),?_⟩⟩⟩
   .simp only[sB,Bk,x0,FD];cases b with
    |true=>
     have e:decide (kd true="queue")=true:=by decide+kernel
     simp only[e];subst ht;rfl
    |false=>
     have e:decide (kd false="queue")=false:=by decide+kernel
     simp only[e];subst ht;rfl
   .have hc:ah [8,9] (jX noV (va 3)) (gTp 2 (aI (gNm 8) (aI (gNm 9) eI))) tQ (tpF (x2 (aa aE (aa az (va 5) (va 2)) (clF la (x3 (aa ixD (va 6) (cI 0)) (va 2) (va 8)))) (aa az (va 7) (va 9))))
      [!(tpD p),!(.int s),!(.int (n:Int)),!(.lst (S.map sdD)),none,!(.int (i:Int)),!(pkD (b,w)),!(.int t),none,none]=!(S.map λc=>sdD (pstep n i (b,w) c)):=by
     refine aw (xs:=S) (mk:=sdD) (out:=λc=>sdD (pstep n i (b,w) c)) (by simp) (λc _=>?_) (Ou hS (!5))
     have mt:az (.int t) (.int c.2)=!(.int (t*c.2)):=nz (!1) (!1)
     simp[sdD,mi,x0,hl b (n:Int) c.1,mt]
     cases b with
     |true=>subst ht;simp[pstep,lay]
     |false=>subst ht;simp[pstep,lay]
    show lsF _ [!(tpD p),!(.int s),!(.int (n:Int)),!(.lst (S.map sdD)),none,!(.int (i:Int)),!(pkD (b,w)),!(.int t),none,none]=_;rw[lsF_a,hc,List.map_map];rfl
   .rw[length_map,length_map,length_map];exact Ou (show T.length+S.length<=10000 by omega) (!5)
   .rw[List.map_append];rfl
  .rw[if_neg hw];refine oO (b:=false) (by simp[vw_o,x1,hw]) ⟨_,rfl,⟨_,rfl,⟨!(.sh,.int (i:Int)),!(.sh,pkD (b,w)),o7,?_⟩⟩⟩;rw[List.append_nil];rfl
 .rintro Y ⟨o5,o6,o7,rfl⟩;rw[List.length_zipIdx];rfl
def  sOpenS (f:Fn):Prop:=∀ (ps:N0) (s:Int) (t:Nat),Valid ps->prod ps<64->t<=ps.length->∃T:List Sd,T.Perm (sds s (prod (ps.take t)) (!3))/\T.Pairwise (λa b=>HT.lexLt [b.1,b.2] [a.1,a.2]=false)/\f [au ps,.int s,.int (t:Int)]=!(.deep,.lst (T.map sdD))
def fV {α:Type} (l:List α) (t i:Nat) (a:α) (h:(l.drop t)[i]?=!a):(l.drop t).take (i+1)=(l.drop t).take i++[a]:=by rw[List.take_add_one,h];rfl
def gS (ps:N0) (t i:Nat):prod (ps.take t)*prod ((!3).take i)=prod (ps.take (t+i)):=by rw[<-db,List.take_add]
def jM (hv:Valid ps) (k:Nat):prod (ps.take k)<=prod ps:=by
 have e:prod ps=prod (ps.take k)*prod (ps.drop k):=by rw[<-db,List.take_append_drop]
 have h1:1<=prod (ps.drop k):=by
  have:∀rs:N0,(∀p∈rs,p∈ps)->1<=prod rs:=λrs=>by
   induction rs with
   |nil=>intro _;decide
   |cons p rs ih=>intro h;exact Nat.mul_pos (hv.p (h p Oo)).1 (ih λq hq=>h q (Op _ hq))
  exact this _ λp hp=>List.mem_of_mem_drop hp
 rw[e];exact Nat.le_mul_of_pos_right _ h1
def nN (hv:Valid ps) (t i:Nat):1<=prod ((!3).take i):=by
 have:∀rs:N0,(∀p∈rs,p∈ps)->1<=prod rs:=λrs=>by
  induction rs with
  |nil=>intro _;decide
  |cons p rs ih=>intro h;exact Nat.mul_pos (hv.p (h p Oo)).1 (ih λq hq=>h q (Op _ hq))
 grind
def vN (hv:Valid ps) (s:Int) (t i:Nat):(sds s (prod (ps.take t)) ((!3).take i)).length<=prod ps:=by
 refine Ov (EH _ _ _) ?_;have h1:1<=prod (ps.take t):=by have:=nN hv 0 t;rwa [List.drop_zero]at this
 refine Ov ?_ (Ov (Nat.le_of_eq (gS ps t i)) (jM hv (t+i)));exact Nat.le_mul_of_pos_left _ h1
def Nt (hf:fl "Mill" "passes"=true) {t:Nat} (h0:bO Y 0=!(au ps)) (h1:bO Y 2=!(.int (t:Int))):slF (flF fl "passes" (va 0)) noP (c4 (va 2)) Y=!(.tup ((ps.take t).map tpD)):=by
 unfold slF orO sM;simp[h0,h1,jD hf,gu,tR]
def Nu (hf:fl "Mill" "passes"=true) {t:Nat} (h0:bO Y 0=!(au ps)) (h1:bO Y 2=!(.int (t:Int))):slF (flF fl "passes" (va 0)) (c4 (va 2)) noP Y=!(.tup ((!3).map tpD)):=by
 unfold slF orO sM;simp[h0,h1,jD hf,gu,nE]
def yR (hc:jb co) (hp:∀p∈ps,p.length<1000):co [.tup (ps.map tpD)]=!(.deep,.int (prod ps:Nat)):=by
 have i1:(ps.map λp=>(false,p)).map (·.2)=ps:=by rw[List.map_map];exact List.map_id ps
 have i2:(ps.map λp=>(false,p)).map paD=ps.map tpD:=by rw[List.map_map];rfl
 have q:=hc false (ps.map λp=>(false,p)) λp hp'=>by
  let⟨r,hr,rfl⟩:=Ox.mp hp';exact hp r hr
 rw[i1,i2]at q;exact q
def h_openS {fl sb co} (hfl:fl "Mill" "passes"=true) (hsb:sSidesB sb) (hco:jb co):sOpenS (aC 3 6 (jL fl sb co)):=λps s t hv h64 ht=>by
 have hs:av 6 [au ps,.int s,.int (t:Int)]=[!(.sh,au ps),!(.sh,.int s),!(.sh,.int (t:Int)),none,none,none]:=rfl;obtain⟨n0,hn0⟩:∃n,n=prod (ps.take t):=⟨_,rfl⟩;have ec:co [.tup ((ps.take t).map tpD)]=!(.deep,.int (n0:Nat)):=by rw[hn0];exact yR hco λp hp=>by have:=(hv.p (List.mem_of_mem_take hp)).2.1;omega
 have hle:∀i,n0*prod ((!3).take i)<=prod ps:=λi=>by rw[hn0,gS];exact jM hv _
 have hsl:∀i,(sds s n0 ((!3).take i)).length<=prod ps:=λi=>by rw[hn0];exact vN hv s t i
 let⟨T,h1,h2,h3⟩:=sort_sd (S:=sds s n0 (!3)) (by have:=hsl (!3).length;rw[List.take_length]at this;omega);rw[<-hn0];refine⟨T,h1,h2,al rfl ?_⟩;rw[hs];unfold jL;refine q_set (evX_lf (d:=.int (n0:Int)) ?_ rfl) (q_set (evX_lfs (d:=.lst [sdD ((n0:Int)-1,1)]) (ds:=[sdD ((n0:Int)-1,1)]) ?_ rfl ?_ rfl) (nH (xs:=ps.drop t) (mk:=tpD)
  (λi Y=>∃o5,Y=[!(.sh,au ps),!(.sh,.int s),!(.sh,.int (t:Int)),!(.deep,.int ((n0*prod ((!3).take i):Nat):Int)),!(.deep,.lst ((sds s n0 ((!3).take i)).map sdD)),o5]) ?_ ⟨none,?_⟩ ?_ ?_))
 .have e:=Nt hfl (Y:=[!(au ps),!(.int s),!(.int (t:Int)),none,none,none]) (ps:=ps) (t:=t) rfl rfl;simp only[sB,e,ec]
 .simp[sdD]
 .simp[sdD]
 .show jX noV _ (shv _)=_;rw[aR,Nu hfl rfl rfl];rfl
 .have e:n0*prod ((!3).take 0)=n0:=Nat.mul_one n0;rw[e];rfl
 .rintro i p Y hp ⟨o5,rfl⟩;have hpm:p∈ps:=List.mem_of_mem_drop (OE hp);have hl6:=(hv.p hpm).2.1;have hb:=hle i;have hc:=hv.codes;have e:=hsb p s (n0*prod ((!3).take i)) (sds s n0 ((!3).take i)) hl6 (!1) (by have:=hsl i;omega);rw[<-Cc,<-fV ps t i p hp]at e;refine⟨_,q_set (evX_call (d:=.lst ((sds s n0 ((!3).take (i+1))).map sdD)) (e:=.lst ((sds s n0 ((!3).take (i+1))).map sdD)) ?_ rfl rfl ?_) (q_set (evX_lf (d:=.int ((n0*prod ((!3).take i)*p.length:Nat):Int)) ?_ rfl) rfl),⟨!(.sh,tpD p),?_⟩⟩
  .simp only[sB,e]
  .simp only[sB,e,vz]
  .have y:seqD (tpD p)=!(p.map pkD):=rfl;simp only[sB,bX,y,length_map,pZ (show n0*prod ((!3).take i)<1000000 by omega)]
  .rw[fV ps t i p hp,bL,<-Nat.mul_assoc];rfl
 .rintro Y ⟨o5,rfl⟩;rw[List.take_length];have s1:s1F (!20) (vw [!(.sh,au ps),!(.sh,.int s),!(.sh,.int (t:Int)),!(.deep,.int ((n0*prod (!3):Nat):Int)),!(.deep,.lst ((sds s n0 (!3)).map sdD)),o5])=!(T.map sdD):=by
   show(x1 (va 4) _).bind bN=_;simp only[sB,h3]
  refine q_ret (evX_lfs (d:=.lst (T.map sdD)) (ds:=T.map sdD) (jG s1) rfl s1 (vM T))
noncomputable abbrev Lz:=Int×Nat
def  lzD (l:Lz):D:=.tup [.int l.1,.int (l.2:Int)]
def  lzsD (ls:List Lz):D:=.lst (ls.map lzD)
structure LzOk (ps:N0) (l:Lz):Prop where
 s1:1<=l.1
 s9:l.1<=9
 t:l.2<=ps.length
def  sLetterZ (f:Fn):Prop:=∀ (ps:N0) (l:Lz),LzOk ps l->f [au ps,lzD l]=!(.deep,.bl true)
def h_letterZ (hl:wZ la) (hs:Bv si):sLetterZ (aC 2 2 (t4 la si)):=λps l h=>by
 refine al rfl ?_;refine(am ((da ?_).trans rfl)).trans (seqF_rt (aY (evX_lf ?_ rfl)))
 .simp[av,lzD]
 .simp[av,lzD,hs l.1,hl ps l.2 h.t,h.s1,h.s9]
def  sLookZ (f:Fn):Prop:=∀ (ps:N0) (ls:List Lz),ls.length<=24->(∀l∈ls,LzOk ps l)->f [au ps,lzsD ls]=!(.deep,.non)
def h_lookZ (hl:sLetterZ le):sLookZ (aC 2 3 (jF le)):=λps ls h24 h=>by
 have hs:av 3 [au ps,lzsD ls]=[!_,!_,none]:=rfl;refine tI rfl (Y:=av 3 [au ps,lzsD ls]) ?_;rw[hs];refine(am ((da ?_).trans rfl)).trans ((am ((da ?_).trans rfl)).trans rfl)
 .have h':¬ (24:Int)<(ls.length:Int):=by omega
  simp[lzsD,h']
 .have hm:ah [2] (jX noV (va 1)) (gNm 2) tQ (clF le (x2 (va 0) (va 2))) [!(au ps),!(lzsD ls),none]=!(ls.map λ_=>.bl true):=by
   refine aw (mk:=lzD) (by simp[lzsD]) (λl hlm=>?_) (Ou h24 (!5));simp[hl ps l (h l hlm)]
  simp[hm,fS ls λ_=>true]
def Ce {k:Nat} (h:ls[k]?=!l):ixD (lzsD ls) (.int (k:Int))=!(lzD l):=aM h
def  sRankZ (f:Fn):Prop:=∀ (ls:List Lz) (k:Nat) (l:Lz),ls.length<=24->ls[k]?=!l->f [lzsD ls,.int (k:Int)]=!(.deep,.int ((k:Int)+(ls.length:Int)*(l.2:Int)))
def h_rankZ:sRankZ (aC 2 2 qe):=λls k l h24 hk=>by
 have hs:av 2 [lzsD ls,.int (k:Int)]=[!(.sh,lzsD ls),!(.sh,.int (k:Int))]:=rfl;have x1:ixD (lzD l) (.int 1)=!(.int (l.2:Int)):=pW _ _ _;have y1:=Ce hk;have y3:seqD (lzsD ls)=!(ls.map lzD):=rfl;refine al rfl ?_;rw[hs];unfold qe;refine seqF_rt (aY (evX_lf (d:=.int ((k:Int)+(ls.length:Int)*(l.2:Int))) ?_ rfl));simp only[sB,y1,x1,y3,bX,length_map,vH (show ls.length<1000000 by omega)]
abbrev rnk (ls:List Lz) (k:Nat) (l:Lz):Int:=(k:Int)+(ls.length:Int)*(l.2:Int)
def  sOpenP (f:Fn):Prop:=∀ (ps:N0) (ls:List Lz) (k:Nat) (l:Lz),Valid ps->prod ps<64->ls.length<=24->(∀l∈ls,LzOk ps l)->ls[k]?=!l->
 ∃T:List Sd,T.Perm (sds l.1 (prod (ps.take l.2)) (ps.drop l.2))/\T.Pairwise (λa b=>HT.lexLt [b.1,b.2] [a.1,a.2]=false)/\f [au ps,lzsD ls,.int (k:Int)]=!(.deep,.lst ((T.map (rkd (rnk ls k l))).map sdD))
def Cf (hv:Valid ps) (h24:ls.length<=24) (h:LzOk ps l) (hk:ls[k]?=!l):0<=rnk ls k l/\rnk ls k l<1000:=by
 have h1:=(On.mp hk).1;have h2:=h.t;have h3:=hv.len;have h4:ls.length*l.2<=24*6:=Nat.mul_le_mul h24 (!1);unfold rnk;omega
def h_openP {os rk lo} (hos:sOpenS os) (hrk:sRankZ rk) (hlo:sLookZ lo):sOpenP (aC 3 6 (iS os rk lo)):=λps ls k l hv h64 h24 h hk=>by
 have hs:av 6 [au ps,lzsD ls,.int (k:Int)]=[!(.sh,au ps),!(.sh,lzsD ls),!(.sh,.int (k:Int)),none,none,none]:=rfl;have hl:=h l (OE hk);let⟨T,h1,h2,h3⟩:=hos ps l.1 l.2 hv h64 hl.t;have x0:ixD (lzD l) (.int 0)=!(.int l.1):=ly _ _;have x1:ixD (lzD l) (.int 1)=!(.int (l.2:Int)):=pW _ _ _;have y1:=Ce hk;have hr:=Cf hv h24 hl hk;have er:=hrk ls k l h24 hk;have hT:T.length<big:=by
  rw[h1.length_eq];refine Ou (?_:_<=1000) (!5);have:=vN hv l.1 l.2 (ps.drop l.2).length;rw[List.take_length]at this;omega
 have hc:ah [4,5] (jX noV (clF os (x3 (va 0) (aa ixD (aa ixD (va 1) (va 2)) (cI 0)) (aa ixD (aa ixD (va 1) (va 2)) (cI 1))))) (gTp 2 (aI (gNm 4) (aI (gNm 5) eI))) tQ (tpF (x2 (va 4) (aa az (va 5) (va 3))))
   [!(au ps),!(lzsD ls),!(.int (k:Int)),!(.int (rnk ls k l)),none,none]=!(T.map λc=>sdD (rkd (rnk ls k l) c)):=by
  refine aw (xs:=T) (mk:=sdD) (out:=λc=>sdD (rkd (rnk ls k l) c)) ?_ (λc _=>?_) hT
  .simp only[sB,aR,y1,x0,x1,h3,rm]
  .have m:az (.int c.2) (.int (rnk ls k l))=!(.int (c.2*rnk ls k l)):=dF (!1) (!1);simp[sdD,rkd,m]
 refine⟨T,h1,h2,al rfl ?_⟩;rw[hs];unfold iS;refine vJ (d:=.non) ?_ (q_set (evX_lf (d:=.int (rnk ls k l)) ?_ rfl) (q_ret (evX_lfs (d:=.lst ((T.map (rkd (rnk ls k l))).map sdD)) (ds:=(T.map (rkd (rnk ls k l))).map sdD) ?_ rfl ?_ (vM _))))
 .simp only[sB,hlo ps ls h24 h]
 .simp only[sB,er]
 .show lsF _ [!(au ps),!(lzsD ls),!(.int (k:Int)),!(.int (rnk ls k l)),none,none]=_;rw[lsF_a,hc,List.map_map];rfl
 .show ah _ _ _ _ _ [!(au ps),!(lzsD ls),!(.int (k:Int)),!(.int (rnk ls k l)),none,none]=_;rw[hc,List.map_map];rfl
def  bD:Option Sd->D
 |none=>.non
 |some q=>sdD q
def  byd (b:Option Sd) (p:Sd):Bool:=match b with
 |none=>true
 |some q=>HT.lexLt [q.1,q.2] [p.1,p.2]
def forD_find {α:Type} {step} {p} {mk} {I:Ev->Prop}:∀ (xs:List α) (Y:Ev),I Y->(∀x Y,I Y->(p x=true->step (mk x) Y=!(.rt (.sh,mk x)))/\(p x=false->∃Y',step (mk x) Y=!(.nx Y')/\I Y'))->
  (∃x,xs.find? p=!x/\b8 step (xs.map mk) Y=!(.rt (.sh,mk x)))\/(xs.find? p=none/\∃Y',b8 step (xs.map mk) Y=!(.nx Y')/\I Y')
 |[],Y,h,_=>.inr ⟨rfl,Y,rfl,h⟩
 |x::xs,Y,h,hs=>by
  rw[List.find?_cons,List.map_cons];unfold b8;cases e:p x with
  |true=>exact .inl ⟨x,rfl,by rw[(hs x Y h).1 e];rfl⟩
  |false=>
   let⟨Y',e1,h1⟩:=(hs x Y h).2 e;rw[e1];exact forD_find xs Y' h1 hs
def  sNext (f:Fn):Prop:=∀ (ps:N0) (ls:List Lz) (k:Nat) (l:Lz),Valid ps->prod ps<64->ls.length<=24->(∀l∈ls,LzOk ps l)->ls[k]?=!l->
 ∃T:List Sd,T.Perm (sds l.1 (prod (ps.take l.2)) (ps.drop l.2))/\T.Pairwise (λa b=>HT.lexLt [b.1,b.2] [a.1,a.2]=false)/\∀b:Option Sd,valO (f [au ps,lzsD ls,.int (k:Int),bD b])=!(bD ((T.map (rkd (rnk ls k l))).find? (byd b)))
def h_next {op} (hop:sOpenP op):sNext (aC 4 5 (bg op)):=λps ls k l hv h64 h24 h hk=>by
 let⟨T,h1,h2,h3⟩:=hop ps ls k l hv h64 h24 h hk;refine⟨T,h1,h2,λb=>?_⟩;generalize T.map (rkd (rnk ls k l))=P at h3;have hs:av 5 [au ps,lzsD ls,.int (k:Int),bD b]=[!(.sh,au ps),!(.sh,lzsD ls),!(.sh,.int (k:Int)),!(.sh,bD b),none]:=rfl;have hJ:jX noV (clF op (x3 (va 0) (va 1) (va 2))) (shv [!(.sh,au ps),!(.sh,lzsD ls),!(.sh,.int (k:Int)),!(.sh,bD b),none])=!(P.map sdD):=by
  show jX noV _ [!(au ps),!(lzsD ls),!(.int (k:Int)),!(bD b),none]=_;simp only[sB,aR,h3,rm]
 have hT:∀ (x:Sd) (o4:N2),orQ (ag (aa (iE false) (va 3) cN)) (ag (aa gtD (va 4) (va 3))) (vw [!(.sh,au ps),!(.sh,lzsD ls),!(.sh,.int (k:Int)),!(.sh,bD b),!(.sh,sdD x)])=!(byd b x):=λx o4=>by
  cases b with
  |none=>rfl
  |some q=>rfl
 rcases forD_find (step:=iF (eNm 4) (ac (ifS (orQ (ag (aa (iE false) (va 3) cN)) (ag (aa gtD (va 4) (va 3)))) (ac (rtN 4) nxE) nxE) nxE)) (p:=byd b) (mk:=sdD)
  (I:=λY=>∃o4,Y=[!(.sh,au ps),!(.sh,lzsD ls),!(.sh,.int (k:Int)),!(.sh,bD b),o4]) P [!(.sh,au ps),!(.sh,lzsD ls),!(.sh,.int (k:Int)),!(.sh,bD b),none] ⟨none,rfl⟩ (by
   rintro x Y ⟨o4,rfl⟩;refine⟨λe=>?_,λe=>⟨_,?_,⟨!(.sh,sdD x),rfl⟩⟩⟩
   .have z:=hT x none;rw[e]at z;exact seqF_rt ((ifS_t z).trans (seqF_rt rfl))
   .have z:=hT x none;rw[e]at z;exact(am ((da z).trans rfl)).trans rfl)with⟨x,e1,e2⟩|⟨e1,Y',e2,_⟩
 .have e:bg op (av 5 [au ps,lzsD ls,.int (k:Int),bD b])=!(.rt (.sh,sdD x)):=by
   rw[hs];unfold bg;refine seqF_rt ?_;unfold frF orO c6;rw[hJ];simp only[Option.bind_some,e2]
  have z:aC 4 5 (bg op) [au ps,lzsD ls,.int (k:Int),bD b]=!(.sh,sdD x):=al rfl e;rw[z,e1];rfl
 .have e:bg op (av 5 [au ps,lzsD ls,.int (k:Int),bD b])=!(.rt (.deep,.non)):=by
   rw[hs];unfold bg;refine q_st (Y':=Y') ?_ (q_ret (evX_lf (d:=.non) rfl rfl));unfold frF orO c6;rw[hJ];simp only[Option.bind_some,e2]
  have z:aC 4 5 (bg op) [au ps,lzsD ls,.int (k:Int),bD b]=!(.deep,.non):=al rfl e;rw[z,e1];rfl
end K21
namespace K21
open PySem PySem.Spec PyProof.Rows L2
def  dW:Cl:=(ac (ao 4 (evV (aa ixD (lsF (dpF (ab (cI 1) (ab (cI 2) (ab (cI 3) (x6 (cI 4) (cI 5) (cI 6) (cI 0) (cI 8) (cI 24))))))) (aa aP (aa bw (aa ixD (va 0) (va 1)) (cI 3)) (cI 9))))) (ac (ao 5 evE) (ac (frF (jR (x1 (biF Dn (x2 (va 4) (va 3))))) (eNm 6) (ac (ao 7 (evV (aa bw (aa ixD (va 0) (aa aE (aa aE (va 1) (cI 1)) (aa aP (va 6) (cI 8)))) (aa aE (cI 1) (aa bw (va 6) (cI 8)))))) (ac (ao 8 (evV (cI 0))) (ac (ifS (ag (aa (aD false) (aa aP (aa bw (va 7) (cI 9)) (cI 6)) (cI 1))) (ac (ao 8 (evV (aa aP (aa bw (va 7) (cI 54)) (aa aE (lnF (va 2)) (cI 1))))) nxE) nxE) (ac (i9 5 (evX (tpF (x2 (aa ixD (lsF (dpF (ab (cI 1) (ab (cI 1) (ab (cI 2) (x6 (cI 1) (cI 3) (cI 1) (cI 9) (cI 2) (cI 4))))))) (aa aP (va 7) (cI 9))) (va 8))) noV (fTp (x2 (frX (aa ixD (lsF (dpF (ab (cI 1) (ab (cI 1) (ab (cI 2) (x6 (cI 1) (cI 3) (cI 1) (cI 9) (cI 2) (cI 4))))))) (aa aP (va 7) (cI 9))) noV noV) (frX (va 8) noV noV))))) nxE))))) (ac (rtN 5) nxE))))
def h_fold2 {ce pa} (hc:BB ce) (hp:BC pa):rD (aC 2 7 (fg ce pa)):=λns m hn h0 hm=>by
 suffices H:∃cs:N9,fg ce pa [sn (scD ns),sn (iN m),none,none,none,none,none]=!(.rt (.deep,scD cs))/\cs.length=m by
  let⟨cs,h1,h2⟩:=H;exact⟨cs,h2,al rfl h1⟩
 have hT:ag (aa (aD false) (aa aP (clF ce (x2 (va 0) (cI 0))) (cI 2)) (cI 1)) [!(scD ns),!(iN m),none,none,none,none,none]=!(decide (ns[0]?.getD 0%2=1)):=by
  have e:ce [scD ns,.int 0]=_:=hc ns 0;simp only[sB,e,bf (show(0:Int)<2 by decide),tF];rfl
 have hJ:∀Y:Vv,bO Y 1=!(iN m)->jR (x1 (va 1)) Y=!((List.range m).map λ(i:Nat)=>D.int (i:Int)):=λY h=>fR (by rw[je,consX_a,va_a,h];exact a6 (!1));have big1:∀i,i<m->i+1<big:=λi h=>Nat.lt_trans (show i+1<1001 by omega) (!5);unfold fg;cases hb:decide (ns[0]?.getD 0%2=1)with
 |true=>
  rw[hb]at hT;let⟨cs,l,_,e⟩:=tV (ks:=[5]) (g:=gNm 5) (ft:=tQ) (fe:=clF pa (x2 (clF ce (x2 (va 0) (aa aE (cI 1) (aa aP (va 5) (cI 16))))) (aa bw (va 5) (cI 16)))) (xs:=List.range m) (mk:=λ(i:Nat)=>D.int (i:Int)) (out:=D.int) (P:=λ_=>True) (hJ [!(scD ns),!(iN m),none,none,none,none,none] rfl) (λk hk=>by
    have hk':k<m:=OD.mp hk;have e1:(1+(k:Int)%16)=((1+k%16:Nat):Int):=by omega
    have e2:(k:Int)/16=((k/16:Nat):Int):=by omega
    let⟨v,_,_,ev⟩:=hp (ns[1+k%16]?.getD 0) (k/16) (!1);refine⟨v,trivial,?_⟩;simp only[sB,bf (show(0:Int)<16 by decide),aS (show(0:Int)<16 by decide) (show(16:Int)<1073741824 by decide),e1,e2,hc ns (1+k%16),ev]) (by rw[length_range];exact Nat.lt_trans hm (!5))
  rw[length_range]at l;exact⟨cs,seqF_rt ((ifS_t hT).trans (q_ret (evX_lfs (d:=scD cs) ((lsF_a ..).trans (congrArg (Option.map D.lst) e)) rfl e (tW cs)))),l⟩
 |false=>
  rw[hb]at hT;refine K6 hT (bZ (s:=(.deep,.int 7)) (evX_lf rfl rfl) (x_for (xs:=ns) (mk:=D.int) (λ_ Y=>∃v o,0<=v/\v<1000000000039/\Y=[sn (scD ns),sn (iN m),dp (.int v),o,none,none,none]) rfl ⟨7,none,by decide,by decide,rfl⟩ ?_ ?_))
  .rintro i p Y _ ⟨v,o,h1,h2,rfl⟩;refine qh (bK (evX_lf (d:=.int ((v*v+p*131+17)%1000000000039)) ?_ rfl)) ⟨_,_,Int.emod_nonneg _ (!5),Int.emod_lt_of_pos _ (!5),rfl⟩;simp[BD h1 h2,dF (show(-1000000:Int)<131 by decide) (show(131:Int)<1000000 by decide)];exact bf (!5)
  rintro Y ⟨v,o,h1,h2,rfl⟩;refine bZ (s:=(.deep,scD [])) (evX_lfs (d:=.lst []) (ds:=[]) rfl rfl rfl rfl) (x_rng (n:=m) (v:=λi=>(i:Int)) (λi Y=>∃v o5,∃cs:N9,cs.length=i/\0<=v/\v<1000000000039/\Y=[sn (scD ns),sn (iN m),dp (.int v),o,dp (scD cs),o5,none]) (hJ _ rfl) ⟨v,none,[],rfl,h1,h2,rfl⟩ ?_ ?_)
  .rintro i Y hi ⟨v,o5,cs,hl,h1,h2,rfl⟩;obtain⟨w,hw⟩:∃w:Int,w=(v*v+48271*i+11)%1000000000039:=⟨_,rfl⟩;refine bZ (evX_lf (d:=.int w) ?_ rfl) (qh (pX (ds:=cs.map D.int) (ds0:=cs.map D.int) (c0:=.deep) (d:=.int w) rfl (evX_lf rfl rfl) rfl (by rw[length_map,hl];exact big1 i hi)) ⟨w,sn (iN i),cs++[w],by simp[hl],by rw[hw];exact Int.emod_nonneg _ (!5),by rw[hw];exact Int.emod_lt_of_pos _ (!5),?_⟩)
   .rw[hw];simp[vw_o,BD h1 h2,dF (show(-1000000:Int)<i by omega) (show(i:Int)<1000000 by omega)];exact bf (!5)
   .simp only[scD,List.map_append];rfl
  rintro Y ⟨v,o5,cs,hl,_,_,rfl⟩;refine x_rng (n:=ns.length) (v:=λi=>(i:Int)) (λi Y=>∃o5 o6,∃cs:N9,cs.length=m/\Y=[sn (scD ns),sn (iN m),dp (.int v),o,dp (scD cs),o5,o6]) (fR (by simp;exact a6 (!1))) ⟨o5,none,cs,hl,rfl⟩ ?_ ?_
  .rintro i Y hi ⟨o5,o6,cs,hl,rfl⟩;have hm0:(0:Int)<m:=by omega
   let⟨hk0,hk1⟩:=md (i:Int) hm0;let⟨x,ex⟩:=jE (ns:=cs) hk0 (by rw[hl];exact hk1);let⟨y,ey⟩:=jE (ns:=ns) (i:=(i:Int)) (!1) (!1);refine bZ (evX_lf (d:=.int ((i:Int)%(m:Int))) (by simp;exact bf hm0) rfl) (qh (ke (ds:=cs.map D.int) (k:=(i:Int)%(m:Int)) (d:=.int ((x*131+y)%1000000000039)) (evX_lf ?_ rfl) rfl rfl hk0 (by rw[length_map,hl];exact hk1)) ⟨sn (iN i),dp (.int ((i:Int)%(m:Int))),cs.set ((i:Int)%(m:Int)).toNat ((x*131+y)%1000000000039),by simp[hl],?_⟩)
   .simp[vw_o,ex,ey,dF (show(-1000000:Int)<131 by decide) (show(131:Int)<1000000 by decide)];exact bf (!5)
   .simp only[scD,List.map_set];rfl
  .rintro Y ⟨o5,o6,cs,hl,rfl⟩;exact⟨cs,rfl,hl⟩
def  sLPass40 (f:Fn):Prop:=∀cs:N9,43<=cs.length->∃ps:N0,Valid ps/\prod ps<=40/\f [scD cs,.int 40]=!(.deep,lpD ps)
def xk (ns:N7) {P:Nat->Prop} (h:∀n∈ns,P n) {i:Int} (h0:0<=i) (h1:i<ns.length):∃n:Nat,P n/\ixD (.lst (ns.map λ(n:Nat)=>D.int (n:Int))) (.int i)=!(.int (n:Int)):=by
 have hi:i.toNat<ns.length:=by omega
 exact⟨ns[i.toNat],h _ (List.getElem_mem hi),kb h0 (by rw[getElem?_map,getElem?_eq_getElem hi];rfl)⟩
def h_lpass40 {g} (hg:nF g):sLPass40 (aC 2 7 (fj g)):=λcs hc=>by
 have h8:(0:Int)<8:=by decide
 have hs:av 7 [scD cs,.int 40]=[!(.sh,scD cs),!(.sh,.int 40),none,none,none,none,none]:=rfl;let⟨c0,e0⟩:=jE (ns:=cs) (i:=0) (!5) (!1);let⟨n,h6,en⟩:=xk [1,2,3,2,5,4,0,6] (P:=(·<=6)) (!5) (md (c0/3) h8).1 (md (c0/3) h8).2;simp at en;suffices H:∃ps:N0,fj g [!(.sh,scD cs),!(.sh,.int 40),none,none,none,none,none]=!(.rt (.deep,lpD ps))/\(Valid ps/\prod ps<=40)by
  let⟨ps,h1,h2,h3⟩:=H;exact⟨ps,h2,h3,al rfl h1⟩
 unfold fj;refine bZ (s:=(.deep,.lst [])) (!14) (bZ (s:=(.deep,.int 1)) (evX_lf rfl rfl) (x_rng (n:=n) (v:=λi=>(i:Int))
  (λi Y=>∃o4 o5,∃ps:N0,ps.length=i/\(∀p∈ps,okP p=true)/\prod ps<=40/\Y=[!(.sh,scD cs),!(.sh,.int 40),!(.deep,lpD ps),!(.deep,.int (prod ps:Nat)),o4,o5,none])
  (fR (by
   simp[e0,aS,rE _ 8,en];exact a6 (!1))) ⟨none,none,[],rfl,(λ_ h=>nomatch h),by decide,rfl⟩ (by
   rintro i Y hi ⟨o4,o5,ps,hl,hok,hpr,rfl⟩;have hi6:i<6:=by omega
   have m7:az (.int 7) (.int (i:Int))=!(.int (7*i)):=dF (!1) (!1);let⟨c1,e1⟩:=jE (ns:=cs) (i:=1+7*(i:Int)) (!1) (!1);let⟨m,⟨m1,m6⟩,em⟩:=xk [1,2,3,2,3,2,4,6] (P:=λn=>1<=n/\n<=6) (!5) (md (c1/5) h8).1 (md (c1/5) h8).2;simp at em;have hP:prod ps<1000000:=by omega
   have key:∃m':Nat,1<=m'/\m'<=6/\prod ps*m'<=40/\(ifS (ag (aa gtD (aa az (va 3) (va 5)) (va 1))) (ac (ao 5 (evV (cI 1))) nxE) nxE) [!(.sh,scD cs),!(.sh,.int 40),!(.deep,lpD ps),!(.deep,.int (prod ps:Nat)),!(.sh,.int (i:Int)),!(.deep,.int (m:Int)),none]=!(.nx [!(.sh,scD cs),!(.sh,.int 40),!(.deep,lpD ps),!(.deep,.int (prod ps:Nat)),!(.sh,.int (i:Int)),!(.deep,.int (m':Int)),none]):=by
    by_cases hb:40<prod ps*m
    .refine⟨1,by decide,by decide,by omega,(ifS_t ?_).trans ((am (bK (evX_lf (d:=.int 1) rfl rfl))).trans rfl)⟩;have hb':(40:Int)<((prod ps*m:Nat):Int):=by omega
     simp only[sB,pZ hP,vA,hb',decide_true]
    .refine⟨m,m1,m6,by omega,(da ?_).trans rfl⟩;have hb':¬ (40:Int)<((prod ps*m:Nat):Int):=by omega
     simp only[sB,pZ hP,vA,hb',decide_false]
   let⟨m',m1',m6',hp',ei⟩:=key;let⟨p,lp,okp,ec⟩:=tV (ks:=[6]) (J:=jR (x1 (va 5))) (g:=gNm 6) (ft:=tQ) (fe:=clF g (x1 (aa ixD (va 0) (aa aE (aa aE (cI 2) (aa az (cI 7) (va 4))) (va 6)))))
    (Y:=[!(scD cs),!(.int 40),!(lpD ps),!(.int ((prod ps*m':Nat):Int)),!(.int (i:Int)),!(.int (m':Int)),none]) (xs:=List.range m') (mk:=λ(i:Nat)=>D.int (i:Int)) (out:=pkD) (P:=λp=>okK p=true) (fR (by simp;exact a6 (!1))) (λk hk=>by
     have hk':k<m':=OD.mp hk;let⟨c2,e2⟩:=jE (ns:=cs) (i:=2+7*(i:Int)+(k:Int)) (!1) (!1);let⟨p,hp,ep⟩:=hg c2;exact⟨p,hp,by simp[m7,e2,ep]⟩) (by rw[length_range];exact Ou m6' (!5))
   rw[length_range]at lp;refine⟨_,(am (bK (evX_lf (d:=.int (m:Int)) ?_ rfl))).trans ((am ei).trans ((am (bK (evX_lf (d:=.int ((prod ps*m':Nat):Int)) ?_ rfl))).trans
     (am (fT (ds:=ps.map λp=>.lst (p.map pkD)) (ds0:=ps.map λp=>.lst (p.map pkD)) (c0:=.deep) (d:=.lst (p.map pkD)) rfl (evX_lfs (d:=.lst (p.map pkD)) ?_ rfl ec (HN p)) rfl ?_)))),
    ⟨!(.sh,.int i),!(.deep,.int m'),ps++[p],by simp[hl],λq hq=>?_,by rw[bL,lp];exact hp',?_⟩⟩
   .simp[m7,e1,aS,rE _ 8,em]
   .simp only[sB,pZ hP]
   .show lsF _ [!(scD cs),!(.int 40),!(lpD ps),!(.int ((prod ps*m':Nat):Int)),!(.int (i:Int)),!(.int (m':Int)),none]=_;rw[lsF_a,ec];rfl
   .rw[length_map,hl];exact Ou (show i+1<=6 by omega) (!5)
   .rcases mem_append.mp hq with hq|hq
    .exact hok q hq
    .cases mem_singleton.mp hq;exact HZ (!1) (!1) okp
   .rw[bL,lp];simp only[lpD,List.map_append];rfl) λY ⟨o4,o5,ps,hl,hok,hpr,h⟩=>⟨ps,by subst h;rfl,⟨by omega,hok,by omega⟩,hpr⟩))
@[simp] theorem Nv (a b c d e f g h i:D):bx (![a,b,c,d,e,f,g,h,i])=![a,b,c,d,e,f,g,h,i]:=dE (show 9<big by decide)
def  sLettersZ (f:Fn):Prop:=∀ (cs:N9) (ps:N0),52<=cs.length->Valid ps->∃ls:List Lz,ls.length<=24/\(∀l∈ls,LzOk ps l)/\f [scD cs,.int 43,lpD ps,.int 24]=!(.deep,lzsD ls)
def h_lettersZ:sLettersZ (aC 4 9 dW):=λcs ps hc hv=>by
 have hs:av 9 [scD cs,.int 43,lpD ps,.int 24]=[!(.sh,scD cs),!(.sh,.int 43),!(.sh,lpD ps),!(.sh,.int 24),none,none,none,none,none]:=rfl;let⟨c0,e0⟩:=jE (ns:=cs) (i:=43) (!5) (!1);have h9:=md (c0/3) (show(0:Int)<9 by decide);have yl:seqD (lpD ps)=!(ps.map λp=>.lst (p.map pkD)):=rfl;let⟨n,_,en⟩:=xk [1,2,3,4,5,6,0,8,24] (P:=λ_=>True) (by simp) h9.1 h9.2;simp at en;obtain⟨m,hm,m8⟩:∃m:Nat,(if(24:Int)<(n:Int)then(24:Int)else(n:Int))=(m:Int)/\m<=24:=by
  by_cases h:(24:Int)<(n:Int)
  .rw[if_pos h];exact⟨24,rfl,OF _⟩
  .rw[if_neg h];exact⟨n,rfl,by omega⟩
 have H:∃ls:List Lz,dW (av 9 [scD cs,.int 43,lpD ps,.int 24])=!(.rt (.deep,lzsD ls))/\(ls.length<=24/\∀l∈ls,LzOk ps l):=by
  rw[hs];unfold dW;refine bZ (evX_lf (d:=.int (n:Int)) (by simp[e0,aS,rE _ 9,en]) rfl) (bZ (!14) ?_);refine x_rng (n:=m) (v:=λi=>(i:Int)) (λi Y=>∃o6 o7 o8,∃ls:List Lz,ls.length=i/\(∀l∈ls,LzOk ps l)/\Y=[!(.sh,scD cs),!(.sh,.int 43),!(.sh,lpD ps),!(.sh,.int 24),!(.deep,.int (n:Int)),!(.deep,lzsD ls),o6,o7,o8])
   ?_ ⟨none,none,none,[],rfl,(λ_ h=>nomatch h),rfl⟩ ?_ ?_
  .refine fR ?_;show(x1 _ [!(scD cs),!(.int 43),!(lpD ps),!(.int 24),!(.int (n:Int)),none,none,none,none]).bind oF=_;simp only[sB,HI];rw[hm];exact a6 (!1)
  .rintro i Y hi ⟨o6,o7,o8,ls,hl,hok,rfl⟩;have m8':=md (i:Int) (show(0:Int)<8 by decide);let⟨y,ey⟩:=jE (ns:=cs) (i:=43+1+(i:Int)%8) (!1) (!1);have p1:(0:Int)<1+(i:Int)/8:=by omega
   have p2:1+(i:Int)/8<1073741824:=by omega
   obtain⟨x,hx⟩:∃x,x=y/(1+(i:Int)/8):=⟨_,rfl⟩;have hlen:(0:Int)<(ps.length:Int)+1:=by omega
   have ml:=md (x/54) hlen;refine bZ (evX_lf (d:=.int x) (by simp only[sB,bf (show(0:Int)<8 by decide),aS (show(0:Int)<8 by decide) (show(8:Int)<1073741824 by decide),ey,aS p1 p2,hx]) rfl) (bZ (evX_lf (d:=.int 0) rfl rfl) ?_);obtain⟨b,hb⟩:∃b,b=decide (x/9%6=1):=⟨_,rfl⟩;refine oO (b:=b) (by simp[vw_o,aS,rE _ 6,hb]) ?_;have step:∃t:Nat,t<=ps.length/\(if b then(ac (ao 8 (evV (aa aP (aa bw (va 7) (cI 54)) (aa aE (lnF (va 2)) (cI 1))))) nxE)else nxE)
     [!(.sh,scD cs),!(.sh,.int 43),!(.sh,lpD ps),!(.sh,.int 24),!(.deep,.int (n:Int)),!(.deep,lzsD ls),!(.sh,.int (i:Int)),!(.deep,.int x),!(.deep,.int 0)]=!(.nx [!(.sh,scD cs),!(.sh,.int 43),!(.sh,lpD ps),!(.sh,.int 24),!(.deep,.int (n:Int)),!(.deep,lzsD ls),!(.sh,.int (i:Int)),!(.deep,.int x),!(.deep,.int (t:Int))]):=by
    cases b with
    |true=>
     let⟨t,ht⟩:=Int.eq_ofNat_of_zero_le ml.1;refine⟨t,by omega,(am (bK (evX_lf (d:=.int (t:Int)) ?_ rfl))).trans rfl⟩;simp only[sB,bX,yl,length_map,aS (show(0:Int)<54 by decide) (show(54:Int)<1073741824 by decide),bf hlen,ht]
    |false=>exact⟨0,Nat.zero_le _,rfl⟩
   let⟨t,ht,et⟩:=step;refine⟨_,by cases b<;>exact et,?_⟩;have h9:=md x (show(0:Int)<9 by decide);let⟨zn,hzn,ez⟩:=xk [1,1,2,1,3,1,9,2,4] (P:=λn=>1<=n/\n<=9) (!5) h9.1 h9.2;simp at ez;obtain⟨z,hz⟩:∃z:Int,(zn:Int)=z:=⟨_,rfl⟩;rw[hz]at ez;have z1:1<=z:=by omega
   have z9:z<=9:=by omega
   refine qh (fT (ds:=ls.map lzD) (ds0:=ls.map lzD) (c0:=.deep) (d:=lzD (z,t)) rfl (evX_lf ?_ rfl) rfl ?_) ⟨!(.sh,.int (i:Int)),!(.deep,.int x),!(.deep,.int (t:Int)),ls++[(z,t)],by simp[hl],λl hl'=>?_,?_⟩
   .simp[vw_o,rE _ 9,ez,lzD]
   .rw[length_map,hl];exact Ou (show i+1<=24 by omega) (!5)
   .rcases mem_append.mp hl' with h|h
    .exact hok l h
    .rw[mem_singleton.mp h];exact⟨z1,z9,ht⟩
   .simp only[lzsD,List.map_append];rfl
  .rintro Y ⟨o6,o7,o8,ls,hl,hok,rfl⟩;exact⟨ls,rfl,by omega,hok⟩
 let⟨ls,e,h1,h2⟩:=H;exact⟨ls,h1,h2,al rfl e⟩
end K21
namespace K21
open PySem PySem.Spec PyProof.Rows L2
def  dG:Cl:=(ac (ao 2 (evX (lsF (dpF (x1 (tpF af)))) (dpF (x1 (tpF af))) (fLs (x1 (frX (tpF af) noV (fTp af)))))) (ac (frF (jX noV (slF (va 0) (c4 (va 1)) noP)) (eNm 3) (ac (ao 4 evE) (ac (frF (jR (x1 (lnF (va 3)))) (eNm 5) (ac (gx 4 (lsF (ah [6] (jX noV (va 2)) (gNm 6) tQ (aa aE (va 6) (tpF (x1 (va 5))))))) nxE)) (ac (ao 2 (evV (va 4))) nxE)))) (ac (rtN 2) nxE)))
def  lE:Cl:=(ac (ao 3 (evV (cI 1))) (ac (frF (jX noV (slF (va 0) noP (c4 (va 1)))) (eNm 4) (ac (ao 3 (evV (aa az (va 3) (lnF (va 4))))) nxE)) (ac (ao 5 (evV (aa bU (va 3) (cI 1)))) (ac (ao 6 (evV (cI 0))) (ac (frF (jX (r2F (x2 (va 1) (lnF (va 0)))) (biF noD (x2 (va 1) (lnF (va 0))))) (eNm 7) (ac (ifS (ag (aa (aD false) (aa ixD (aa ixD (aa ixD (va 0) (va 7)) (aa ixD (va 2) (aa bU (va 7) (va 1)))) (cI 0)) (cS "pile"))) (ac (ao 6 (evX (aa aE (va 6) (cI 1)) (mY (va 6) (cI 1)) noV)) (ac (ao 5 (evV (aa bU (aa bU (va 3) (cI 1)) (va 5)))) nxE)) nxE) (ac (ao 5 (evX (aa aE (va 5) (aa az (aa ixD (va 2) (aa bU (va 7) (va 1))) (va 3))) (mY (va 5) (aa az (aa ixD (va 2) (aa bU (va 7) (va 1))) (va 3))) noV)) (ac (ao 3 (evV (aa az (va 3) (lnF (aa ixD (va 0) (va 7)))))) nxE)))) (rtF (evX (tpF (x2 (va 5) (aa bU (cI 1) (aa az (cI 2) (aa aP (va 6) (cI 2)))))) noV (fTp (x2 (frX (va 5) noV noV) (frX (aa bU (cI 1) (aa az (cI 2) (aa aP (va 6) (cI 2)))) noV noV))))))))))
def  lF (dI eQ:Fn):Cl:=(ac (unF (aa ixD (va 1) (va 2)) (eTp 2 (aL (eNm 5) (aL (eNm 6) gJ)))) (ac (ao 3 evE) (ac (frF (jX noV (clF dI (x2 (va 0) (va 6)))) (eNm 4) (ac (ifS (ag (aa (aD false) (lnF (lsF (ah [9] (jR (x1 (biF dg (!20)))) (gNm 9) (ag (aa ltD (aa ixD (aa ixD (aa ixD (va 0) (aa aE (va 6) (va 9))) (aa ixD (va 4) (va 9))) (cI 1)) (va 5))) (va 9)))) (cI 0))) (ac (unF (clF eQ (x3 (va 0) (va 6) (va 4))) (eTp 2 (aL (eNm 7) (aL (eNm 8) gJ)))) (ac (i9 3 (evX (tpF (x2 (tpF (x2 (va 7) (aa az (va 8) (aa aE (va 2) (aa az (lnF (va 1)) (va 6)))))) (va 4))) noV (fTp (x2 (frX (tpF (x2 (va 7) (aa az (va 8) (aa aE (va 2) (aa az (lnF (va 1)) (va 6)))))) noV (fTp (x2 (frX (va 7) noV noV) (frX (aa az (va 8) (aa aE (va 2) (aa az (lnF (va 1)) (va 6)))) noV noV)))) (frX (va 4) noV noV))))) nxE)) nxE) nxE)) (rtF (evX (liG (x1 (va 3)) (s1F (x1 (va 3)))) (s1F (x1 (va 3))) (fNo (x1 (va 3))))))))
def x_tg {α:Type} {Y1:Ev} {out:α->Option Out} {P:α->Prop} (h:o=!Y1) (k:∃a,F Y1=out a/\P a):∃a,o.bind F=out a/\P a:=by rw[h];exact k
def Cg (W:List (N7)):lfL (W.map wD)=true:=br λd hd=>by
 let⟨w,_,rfl⟩:=Ox.mp hd;exact tT w
def Iw {t:Nat} (h0:bO Y 0=!(lpD ps)) (h1:bO Y 1=!(.int (t:Int))):slF (va 0) (c4 (va 1)) noP Y=!(lpD (!3)):=by
 unfold slF orO sM xW;simp[h0,h1,lpD,nE]
def Ix {t:Nat} (h0:bO Y 0=!(lpD ps)) (h1:bO Y 1=!(.int (t:Int))):slF (va 0) noP (c4 (va 1)) Y=!(lpD (ps.take t)):=by
 unfold slF orO sM xW;simp[h0,h1,lpD,tR]
def EI (w:N7) (k:Nat) (h:w.length<100):aE (wD w) (.tup [.int (k:Int)])=!(wD (w++[k])):=by
 show(if(w.map λ(i:Nat)=>D.int (i:Int)).length+1<big then _ else _)=_;rw[if_pos (by rw[length_map];exact Nat.lt_trans (show w.length+1<101 by omega) (!5))];unfold wD;rw[List.map_append];rfl
def Ch (W:List (N7)) (i:Nat):((List.range (i+1)).flatMap λk=>W.map λw=>w++[k])=((List.range i).flatMap λk=>W.map λw=>w++[k])++W.map λw=>w++[i]:=by
 rw[List.range_succ,List.flatMap_append];simp
def vO (W:List (N7)) (i:Nat):((List.range i).flatMap λk=>W.map λw=>w++[k]).length=i*W.length:=by
 induction i with
 |zero=>simp
 |succ i ih=>rw[Ch,length_append,length_map,ih,Nat.succ_mul]
def  sWordsL (f:Fn):Prop:=∀ (ps:N0) (t:Nat),Valid ps->prod ps<64->valO (f [lpD ps,.int (t:Int)])=!(.lst ((wds (!3)).map wD))
def h_wordsL:sWordsL (aC 2 7 dG):=λps t hv h64=>by
 have hs:av 7 [lpD ps,.int (t:Int)]=[!(.sh,lpD ps),!(.sh,.int (t:Int)),none,none,none,none,none]:=rfl;have hW:∀i,(wds ((!3).take i)).length<=64:=λi=>by
  rw[rP];have h1:=nN hv 0 t;rw[List.drop_zero]at h1;have h2:=gS ps t i;have h3:=jM hv (t+i);have h4:prod ((!3).take i)<=prod (ps.take t)*prod ((!3).take i):=Nat.le_mul_of_pos_left _ h1;omega
 have H:∃c:Cat,dG (av 7 [lpD ps,.int (t:Int)])=!(.rt (c,.lst ((wds (!3)).map wD)))/\True:=by
  rw[hs];unfold dG;refine bZ (evX_lfs (d:=.lst [wD []]) (ds:=[wD []]) (by rfl) rfl (by rfl) rfl) ?_;refine x_for (xs:=ps.drop t) (mk:=λp=>.lst (p.map pkD)) (λi Y=>∃c2 o3 o4 o5,c2≠.top/\Y=[!(.sh,lpD ps),!(.sh,.int (t:Int)),!(c2,.lst ((wds ((!3).take i)).map wD)),o3,o4,o5,none]) ?_ ⟨.deep,none,none,none,by decide,rfl⟩ ?_ ?_
  .show jX noV _ (shv _)=_;rw[aR,Iw rfl rfl];rfl
  .rintro i p Y hp ⟨c2,o3,o4,o5,hc2,rfl⟩;have hpm:p∈ps:=List.mem_of_mem_drop (OE hp);have hl6:=(hv.p hpm).2.1;have hWi:=hW i;have e1:wds ((!3).take (i+1))=qq (wds ((!3).take i)) p:=by rw[fV ps t i p hp,jK]
   have hwl:∀w∈wds ((!3).take i),w.length<100:=λw hw=>by
    have:=(wds_mem _ w hw).1;rw[List.length_take,List.length_drop]at this;have:=hv.len;omega
   rw[e1];unfold qq;generalize wds ((!3).take i)=W at hWi hwl;have y:seqD (.lst (p.map pkD))=!(p.map pkD):=rfl;refine x_tg (Y1:=[!(.sh,lpD ps),!(.sh,.int (t:Int)),!(c2,.lst (W.map wD)),!(.sh,.lst (p.map pkD)),o4,o5,none]) rfl ?_;refine bZ (!14) ?_;refine x_rng (n:=p.length) (v:=λk=>(k:Int)) (λj Y=>∃o5,Y=[!(.sh,lpD ps),!(.sh,.int (t:Int)),!(c2,.lst (W.map wD)),!(.sh,.lst (p.map pkD)),!(.deep,.lst ((((List.range j).flatMap λk=>W.map λw=>w++[k])).map wD)),o5,none]) ?_ ⟨o5,rfl⟩ ?_ ?_
   .refine fR ?_;simp only[sB,FI];show((dg [.lst (p.map pkD)]).bind λd=>![d]).bind oF=_;simp only[bX,y,length_map,Option.bind_some];exact a6 (!1)
   .rintro j Y hj ⟨o5,rfl⟩;have hb:=vO W j;have hb2:j*W.length<=6*64:=Nat.mul_le_mul (!1) hWi;have hcm:∀ (o3 o4:Oe),ah [6] (jX noV (va 2)) (gNm 6) tQ (aa aE (va 6) (tpF (x1 (va 5)))) [!(lpD ps),!(.int (t:Int)),!(.lst (W.map wD)),o3,o4,!(.int (j:Int)),none]=!((W.map λw=>w++[j]).map wD):=λo3 o4=>by
     rw[List.map_map];refine aw (xs:=W) (mk:=wD) (out:=λw=>wD (w++[j])) (by simp) (λw hw=>?_) (Ou hWi (!5));simp[EI w j (hwl w hw)]
    have hz:(((List.range j).flatMap λk=>W.map λw=>w++[k]).map wD).length+((W.map λw=>w++[j]).map wD).length<big:=by
     rw[length_map,length_map,length_map,hb];exact Ou (show j*W.length+W.length<=1000 by omega) (!5)
    have ex:gx 4 (lsF (ah [6] (jX noV (va 2)) (gNm 6) tQ (aa aE (va 6) (tpF (x1 (va 5)))))) [!(.sh,lpD ps),!(.sh,.int (t:Int)),!(c2,.lst (W.map wD)),!(.sh,.lst (p.map pkD)),!(.deep,.lst ((((List.range j).flatMap λk=>W.map λw=>w++[k])).map wD)),!(.sh,.int (j:Int)),none]
      =!(.nx ([!(.sh,lpD ps),!(.sh,.int (t:Int)),!(c2,.lst (W.map wD)),!(.sh,.lst (p.map pkD)),!(.deep,.lst ((((List.range j).flatMap λk=>W.map λw=>w++[k])).map wD)),!(.sh,.int (j:Int)),none].set 4 (!(.deep,.lst ((((List.range j).flatMap λk=>W.map λw=>w++[k]).map wD)++((W.map λw=>w++[j]).map wD)))))):=by
     cases c2 with
     |top=>exact absurd rfl hc2
     |deep=>exact Eu rfl rfl (by show lsF _ _=_;rw[lsF_a];exact congrArg _ (hcm _ _)) (Cg _) hz
     |sh=>exact kh rfl (by show lsF _ _=_;rw[lsF_a];exact congrArg _ (hcm _ _)) (Cg _) hz
    refine⟨_,(am ex).trans rfl,⟨!(.sh,.int (j:Int)),?_⟩⟩;rw[Ch,List.map_append];rfl
   .rintro Y ⟨o5,rfl⟩;refine bZ (evX_fz (d:=.lst ((((List.range p.length).flatMap λk=>W.map λw=>w++[k])).map wD)) rfl rfl rfl rfl rfl rfl) (nI ⟨.sh,!(.sh,.lst (p.map pkD)),!(.sh,.lst ((((List.range p.length).flatMap λk=>W.map λw=>w++[k])).map wD)),o5.map λs=>(.sh,s.2),by decide,?_⟩);cases c2<;>cases o5<;>rfl
  .rintro Y ⟨c2,o3,o4,o5,_,rfl⟩;rw[List.take_length];exact⟨c2,rfl,trivial⟩
 let⟨c,e,_⟩:=H;have z:aC 2 7 dG [lpD ps,.int (t:Int)]=!(c,.lst ((wds (!3)).map wD)):=al rfl e;rw[z];rfl
def rQ:∀ {rs:N0} {w:N7},w.length=rs.length->(fitW s rs w=true↔∀i,i<w.length->s<=(pkg (rs.getD i []) (w.getD i 0)).2)
 |[],[],_=>by simp[fitW]
 |[],_::_,h=>by cases h
 |_::_,[],h=>by cases h
 |p::rs,k::w,h=>by
  show(decide (s<=(pkg p k).2)&&fitW s rs w)=true↔_;rw[and_eq_true,decide_eq_true_eq,rQ (Nat.succ.inj h)];constructor
  .rintro⟨h1,h2⟩ i hi;cases i with
   |zero=>exact h1
   |succ i=>exact h2 i (Nat.lt_of_succ_lt_succ hi)
  .intro z;exact⟨z 0 (Nat.succ_pos _),λi hi=>z (i+1) (Nat.succ_lt_succ hi)⟩
def FK {i:Nat} (h:ps[i]?=!p):ixD (lpD ps) (.int (i:Int))=!(.lst (p.map pkD)):=aM h
def Li {i k:Nat} (h:w[i]?=!k):ixD (wD w) (.int (i:Int))=!(.int (k:Int)):=aM h
def FL {p:List Pk} {k:Nat} (h:p[k]?=!a):ixD (.lst (p.map pkD)) (.int (k:Int))=!(pkD a):=aM h
def Lj {ps:N0} {w:N7} (hl:w.length=(!3).length) (hq:∀q∈w.zip (!3),q.1<q.2.length) (hi:i<w.length):
  ∃ (p:List Pk) (k:Nat) (a:Pk),ps[t+i]?=!p/\(!3)[i]?=!p/\w[i]?=!k/\p[k]?=!a/\pkg p k=a:=by
 have e1:(!3)[i]?=some (!3)[i]:=getElem?_eq_getElem (!1)
 have e2:=getElem?_eq_getElem hi
 have m:(w[i],(!3)[i])∈w.zip (!3):=OE (List.getElem?_zip_eq_some.mpr ⟨e2,e1⟩)
 have hk:=hq _ m
 have e3:(!3)[i][w[i]]?=some (!3)[i][w[i]]:=getElem?_eq_getElem hk
 exact⟨_,_,_,by rw[<-List.getElem?_drop];exact e1,e1,e2,e3,Cd e3⟩
def EJ (b:Bool):decide (kd b=("pile":Str))=not b:=Nm b
def  sCodeL (f:Fn):Prop:=∀ (ps:N0) (t:Nat) (w:N7),Valid ps->prod ps<64->t<=ps.length->w.length=(!3).length->(∀q∈w.zip (!3),q.1<q.2.length)->f [lpD ps,.int (t:Int),wD w]=!(.deep,sdD (pl (prod (ps.take t)) (!3) w ((prod (ps.take t):Int)-1,1)))
def h_codeL:sCodeL (aC 3 8 lE):=λps t w hv h64 ht hl hq=>by
 have hs:av 8 [lpD ps,.int (t:Int),wD w]=[!(.sh,lpD ps),!(.sh,.int (t:Int)),!(.sh,wD w),none,none,none,none,none]:=rfl;have hle:=jM hv;obtain⟨n0,hn0⟩:∃n,n=prod (ps.take t):=⟨_,rfl⟩;have hd:(!3).length=ps.length-t:=List.length_drop;have hcut:∀i,n0*prod ((!3).take i)<=prod ps:=λi=>by rw[hn0,gS];exact hle _
 rw[<-hn0];refine al rfl ?_;rw[hs];unfold lE;refine q_set (evX_lf (d:=.int 1) rfl rfl) (nH (xs:=ps.take t) (mk:=λp=>.lst (p.map pkD)) (λi Y=>∃o4,Y=[!(.sh,lpD ps),!(.sh,.int (t:Int)),!(.sh,wD w),!(.deep,.int (prod ((ps.take t).take i):Nat)),o4,none,none,none]) ?_ ⟨none,rfl⟩ ?_ ?_)
 .show jX noV _ (shv _)=_;rw[aR,Ix rfl rfl];rfl
 .rintro i p Y hp ⟨o4,rfl⟩;have hP:prod ((ps.take t).take i)<1000000:=by
   rw[List.take_take];have:=hle (min i t);omega
  refine⟨_,am (bK (evX_lf (d:=.int ((prod ((ps.take t).take i)*p.length:Nat):Int)) ?_ rfl)),⟨!(.sh,.lst (p.map pkD)),?_⟩⟩
  .have y:seqD (.lst (p.map pkD))=!(p.map pkD):=rfl;simp only[sB,bX,y,length_map,pZ hP]
  .rw[List.take_add_one,hp];show _=[!(Cat.sh,lpD ps),_,_,!(Cat.deep,D.int (prod ((ps.take t).take i++[p]):Nat)),_,_,_,_];rw[bL];rfl
 .rintro Y ⟨o4,rfl⟩;rw[List.take_length,<-hn0];have yl:seqD (lpD ps)=!(ps.map λp=>.lst (p.map pkD)):=rfl;refine q_set (evX_lf (d:=.int ((n0:Int)-1)) ?_ rfl) (q_set (evX_lf (d:=.int 0) rfl rfl) (K5 (n:=ps.length-t) (v:=λi=>(t:Int)+(i:Int))
   (λi Y=>∃o7,∃ (c:Int) (m:Int),pl n0 ((!3).take i) (w.take i) ((n0:Int)-1,1)=(c,1-2*(m%2))/\Y=[!(.sh,lpD ps),!(.sh,.int (t:Int)),!(.sh,wD w),!(.deep,.int ((n0*prod ((!3).take i):Nat):Int)),o4,!(.deep,.int c),!(.deep,.int m),o7]) ?_ ⟨none,(n0:Int)-1,0,rfl,?_⟩ ?_ ?_))
  .simp[vw_o]
  .refine KN ?_;show(x2 (va 1) (lnF (va 0)) [!(lpD ps),!(.int (t:Int)),!(wD w),!(.int (n0:Int)),Ab o4,!(.int ((n0:Int)-1)),!(.int 0),none]).bind sI=_;simp only[sB,bX,yl,length_map];have:=hv.len;rw[Br (!1) (!1)];exact congrArg some (List.map_congr_left λi _=>by rw[Int.natCast_add])
  .have e:n0*prod ((!3).take 0)=n0:=Nat.mul_one n0;rw[e];rfl
  .rintro i Y hi ⟨o7,c,m,hc,rfl⟩;let⟨p,k,⟨b,wd⟩,m1,m2,m3,m4,m5⟩:=Lj hl hq (i:=i) (!1);have hP:=hcut i;have hPm:∀z:Int,az (.int z) (.int ((n0*prod ((!3).take i):Nat):Int))=!(.int (z*((n0*prod ((!3).take i):Nat):Int))):=λz=>dF (!1) (!1);have hti:(t:Int)+(i:Int)=((t+i:Nat):Int):=by omega
   have hii:(t:Int)+(i:Int)-(t:Int)=(i:Int):=by omega
   have x0:ixD (pkD (b,wd)) (.int 0)=!(.str (kd b)):=ly _ _;have y:seqD (.lst (p.map pkD))=!(p.map pkD):=rfl;have f1:ixD (lpD ps) (.int ((t:Int)+(i:Int)))=!(.lst (p.map pkD)):=by rw[hti];exact FK m1
   have f2:=Li m3;have f3:=FL m4;have hw:w.take (i+1)=w.take i++[k]:=by rw[List.take_add_one,m3];rfl
   have hpl:pl n0 ((!3).take (i+1)) (w.take (i+1)) ((n0:Int)-1,1)=pstep (n0*prod ((!3).take i)) k (b,wd) (c,1-2*(m%2)):=by
    rw[fV ps t i p m2,hw,pl_snoc _ _ _ _ (by rw[List.length_take,List.length_take,hl]),hc,m5]
   rw[hpl];have hN:n0*prod ((!3).take (i+1))=n0*prod ((!3).take i)*p.length:=by rw[fV ps t i p m2,bL,Nat.mul_assoc]
   rw[hN];generalize n0*prod ((!3).take i)=N at hP hPm;refine oO (b:=not b) ?_ ?_
   .simp only[sB,hii,f1,f2,f3,x0,FD];rw[<-EJ b];rfl
   .have rest:∀c' m':Int,∃a,(ac (ao 5 (evX (aa aE (va 5) (aa az (aa ixD (va 2) (aa bU (va 7) (va 1))) (va 3))) (mY (va 5) (aa az (aa ixD (va 2) (aa bU (va 7) (va 1))) (va 3))) noV)) (ac (ao 3 (evV (aa az (va 3) (lnF (aa ixD (va 0) (va 7)))))) nxE))
      [!(.sh,lpD ps),!(.sh,.int (t:Int)),!(.sh,wD w),!(.deep,.int (N:Int)),o4,!(.deep,.int c'),!(.deep,.int m'),!(.sh,.int ((t:Int)+(i:Int)))]=!(.nx a)/\a=[!(.sh,lpD ps),!(.sh,.int (t:Int)),!(.sh,wD w),!(.deep,.int ((N*p.length:Nat):Int)),o4,!(.deep,.int (c'+(k:Int)*(N:Int))),!(.deep,.int m'),!(.sh,.int ((t:Int)+(i:Int)))]:=λc' m'=>by
     refine bZ (evX_lf (d:=.int (c'+(k:Int)*(N:Int))) ?_ rfl) (bZ (evX_lf (d:=.int ((N*p.length:Nat):Int)) ?_ rfl) (nI rfl))
     .simp only[sB,hii,f2,hPm]
     .simp only[sB,f1,bX,y,length_map,pZ (show N<1000000 by omega)]
    cases b with
    |true=>
     refine⟨_,rfl,?_⟩;let⟨a,ea,rfl⟩:=rest c m;exact⟨_,ea,⟨!(.sh,.int ((t:Int)+(i:Int))),c+(k:Int)*(N:Int),m,by show((k:Int)*(N:Int)+c,1-2*(m%2))=_;rw[Int.add_comm],rfl⟩⟩
    |false=>
     refine⟨_,q_set (evX_lf (d:=.int (m+1)) ?_ rfl) (q_set (evX_lf (d:=.int ((N:Int)-1-c)) ?_ rfl) rfl),?_⟩
     .simp[vw_o]
     .simp[vw_o]
     .let⟨a,ea,rfl⟩:=rest ((N:Int)-1-c) (m+1);refine⟨_,ea,⟨!(.sh,.int ((t:Int)+(i:Int))),(N:Int)-1-c+(k:Int)*(N:Int),m+1,?_,rfl⟩⟩;show((k:Int)*(N:Int)+((N:Int)-1-c),-(1-2*(m%2)))=_;rw[Int.add_comm];refine Prod.ext rfl ?_;show -(1-2*(m%2))=1-2*((m+1)%2);omega
  .rintro Y ⟨o7,c,m,hc,rfl⟩;rw[List.take_of_length_le (show(!3).length<=ps.length-t by omega),List.take_of_length_le (show w.length<=ps.length-t by omega)]at hc;rw[hc];refine q_ret (evX_lf (d:=sdD (c,1-2*(m%2))) ?_ rfl);have m2:az (.int 2) (.int (m%2))=!(.int (2*(m%2))):=nz (!5) (!5);simp[vw_o,rE _ 2,sdD,m2]
abbrev lpl (ps:N0) (t:Nat) (w:N7):Sd:=pl (prod (ps.take t)) (!3) w ((prod (ps.take t):Int)-1,1)
def FM (h:R (shv Y)=!d) (hg:g d Y=!Y'):unF R g Y=!(.nx Y'):=by
 unfold unF orO DA;simp[h,hg]
def  sOpenL (f:Fn):Prop:=∀ (ps:N0) (ls:List Lz) (k:Nat) (l:Lz),Valid ps->prod ps<64->ls.length<=24->(∀l∈ls,LzOk ps l)->ls[k]?=!l->
 ∃U:List (Sd×List Nat),U.Perm (((wds (ps.drop l.2)).filter (fitW l.1 (ps.drop l.2))).map λw=>(rkd (rnk ls k l) (lpl ps l.2 w),w))/\U.Pairwise (λa b=>HT.lexLt [b.1.1,b.1.2] [a.1.1,a.1.2]=false)/\f [lpD ps,lzsD ls,.int (k:Int)]=!(.deep,.lst (U.map fdD))
def Iy (U:List (Sd×List Nat)):lfL (U.map fdD)=true:=br λd hd=>by
 let⟨q,_,rfl⟩:=Ox.mp hd;show(lfD (sdD q.1)&&(lfD (wD q.2)&&true))=true;rw[tT];rfl
def h_openL {wo co} (hwo:sWordsL wo) (hco:sCodeL co):sOpenL (aC 3 10 (lF wo co)):=λps ls k l hv h64 h24 h hk=>by
 let⟨s,t⟩:=l;have hs:av 10 [lpD ps,lzsD ls,.int (k:Int)]=[!(.sh,lpD ps),!(.sh,lzsD ls),!(.sh,.int (k:Int)),none,none,none,none,none,none,none]:=rfl;have hl:=h (s,t) (OE hk);have ht:t<=ps.length:=hl.t;have hr:=Cf hv h24 hl hk;have y1:=Ce hk;have y3:seqD (lzsD ls)=!(ls.map lzD):=rfl;have ew:=hwo ps t hv h64;have hfl:∀i,(((wds (!3)).take i).filter (fitW s (!3))).length<=63:=λi=>by
  refine Ov (List.length_filter_le _ _) ?_;rw[List.length_take,rP];have h1:=nN hv 0 t;rw[List.drop_zero]at h1;have h2:=gS ps t (!3).length;rw[List.take_length]at h2;have h3:=jM hv (t+(!3).length);have h4:prod (!3)<=prod (ps.take t)*prod (!3):=Nat.le_mul_of_pos_left _ h1;omega
 let⟨U,u1,u2,u3⟩:=EG (n:=(!3).length) (L:=((wds (!3)).filter (fitW s (!3))).map λw=>(rkd (rnk ls k (s,t)) (lpl ps t w),w)) (by
  rw[length_map];have:=hfl (wds (!3)).length;rw[List.take_length]at this;omega) (λq hq=>by
  let⟨w,hw,rfl⟩:=Ox.mp hq;exact(wds_mem _ w (List.mem_filter.mp hw).1).1)
 refine⟨U,u1,u2,al rfl ?_⟩;rw[hs];unfold lF;refine q_st (FM (d:=lzD (s,t)) (Y':=[!(.sh,lpD ps),!(.sh,lzsD ls),!(.sh,.int (k:Int)),none,none,!(.sh,.int s),!(.sh,.int (t:Int)),none,none,none]) ?_ rfl) (q_set (!14) (nH (xs:=wds (!3)) (mk:=wD)
  (λi Y=>∃o4 o7 o8,Y=[!(.sh,lpD ps),!(.sh,lzsD ls),!(.sh,.int (k:Int)),!(.deep,.lst (((((wds (!3)).take i).filter (fitW s (!3))).map λw=>(rkd (rnk ls k (s,t)) (lpl ps t w),w)).map fdD)),o4,!(.sh,.int s),!(.sh,.int (t:Int)),o7,o8,none]) ?_ ⟨none,none,none,rfl⟩ ?_ ?_))
 .show aa ixD (va 1) (va 2) [!(lpD ps),!(lzsD ls),!(.int (k:Int)),none,none,none,none,none,none,none]=_;simp only[sB,y1]
 .show jX noV _ [!(lpD ps),!(lzsD ls),!(.int (k:Int)),none,none,!(.int s),!(.int (t:Int)),none,none,none]=_;simp only[sB,aR,ew,rm]
 .rintro i w Y hw ⟨o4,o7,o8,rfl⟩;have hwm:=OE hw;let⟨hwl,hwq⟩:=wds_mem _ w hwm;have hw6:w.length<=6:=by rw[hwl,List.length_drop];have:=hv.len;omega
  have ec:=hco ps t w hv h64 ht hwl hwq;have hT:((wds (!3)).take (i+1)).filter (fitW s (!3))=((wds (!3)).take i).filter (fitW s (!3))++(if fitW s (!3) w=true then[w]else[]):=by
   rw[List.take_add_one,hw,List.filter_append];show _++List.filter _ [w]=_;rw[List.filter_cons];cases fitW s (!3) w<;>rfl
  rw[hT,List.map_append];have hlen:=hfl i;generalize ((wds (!3)).take i).filter (fitW s (!3))=V at hlen;have yw:seqD (wD w)=!(w.map λ(k:Nat)=>D.int (k:Int)):=rfl;have hc:∀ (o3 o7 o8:Oe),ah [9] (jR (x1 (lnF (va 4)))) (gNm 9) (ag (aa ltD (aa ixD (aa ixD (aa ixD (va 0) (aa aE (va 6) (va 9))) (aa ixD (va 4) (va 9))) (cI 1)) (va 5))) (va 9)
    [!(lpD ps),!(lzsD ls),!(.int (k:Int)),o3,!(wD w),!(.int s),!(.int (t:Int)),o7,o8,none]=!(((List.range w.length).filter λj=>decide ((pkg ((!3).getD j []) (w.getD j 0)).2<s)).map λ(j:Nat)=>D.int (j:Int)):=λo3 o7 o8=>by
   refine iQ (xs:=List.range w.length) (mk:=λ(j:Nat)=>D.int (j:Int)) (out:=λ(j:Nat)=>D.int (j:Int)) (p:=λj=>decide ((pkg ((!3).getD j []) (w.getD j 0)).2<s)) ?_ (λj hj=>?_) (by rw[length_range];exact Ou hw6 (!5))
   .refine fR ?_;simp only[sB,bX,yw,length_map];exact a6 (!1)
   .let⟨p,kk,⟨b,wd⟩,m1,m2,m3,m4,m5⟩:=Lj hwl hwq (i:=j) (OD.mp hj);have hti:(t:Int)+(j:Int)=((t+j:Nat):Int):=by omega
    have f1:ixD (lpD ps) (.int ((t:Int)+(j:Int)))=!(.lst (p.map pkD)):=by rw[hti];exact FK m1
    have f2:=Li m3;have f3:=FL m4;have x1:ixD (pkD (b,wd)) (.int 1)=!(.int wd):=pW _ _ _;have e1:(!3).getD j []=p:=by rw[List.getD_eq_getElem?_getD,m2];rfl
    have e2:w.getD j 0=kk:=by rw[List.getD_eq_getElem?_getD,m3];rfl
    rw[e1,e2,m5];simp only[sB,f1,f2,f3,x1];show((ltD (.int wd) (.int s)).bind D.asB).bind _=_;rw[show ltD (.int wd) (.int s)=some (.bl (decide (wd<s)))from rfl];simp only[Option.bind_some,asB_bl];cases decide (wd<s)<;>rfl
  have hb:decide ((((List.range w.length).filter λj=>decide ((pkg ((!3).getD j []) (w.getD j 0)).2<s)).length:Int)=0)=fitW s (!3) w:=by
   cases e:fitW s (!3) w with
   |true=>
    have z:=(rQ hwl).mp e;refine decide_eq_true ?_;have:((List.range w.length).filter λj=>decide ((pkg ((!3).getD j []) (w.getD j 0)).2<s))=[]:=List.filter_eq_nil_iff.mpr λj hj=>by
     have:=z j (OD.mp hj);simp only[decide_eq_true_eq];omega
    rw[this];rfl
   |false=>
    refine decide_eq_false λq=>?_;have q:((List.range w.length).filter λj=>decide ((pkg ((!3).getD j []) (w.getD j 0)).2<s))=[]:=List.eq_nil_of_length_eq_zero (!1);have:fitW s (!3) w=true:=(rQ hwl).mpr λj hj=>by
     have:=List.filter_eq_nil_iff.mp q j (OD.mpr hj);simp only[decide_eq_true_eq]at this;omega
    rw[e]at this;cases this
  refine oO (b:=fitW s (!3) w) ?_ ?_
  .simp only[sB,hc,bX,rm,length_map,tF];exact congrArg some hb
  .cases e:fitW s (!3) w with
   |false=>
    refine⟨_,rfl,⟨_,rfl,⟨!(.sh,wD w),o7,o8,?_⟩⟩⟩;show _=[_,_,_,!(Cat.deep,D.lst (((V.map λw=>(rkd (rnk ls k (s,t)) (lpl ps t w),w))++[]).map fdD)),_,_,_,_,_,_];rw[List.append_nil];rfl
   |true=>
    obtain⟨c,d,hL⟩:∃c d,lpl ps t w=(c,d):=⟨_,_,rfl⟩;have ec:co [lpD ps,.int (t:Int),wD w]=!(.deep,sdD (c,d)):=by rw[ec];exact congrArg (λz=>!(Cat.deep,sdD z)) hL
    have mr:az (.int d) (.int (rnk ls k (s,t)))=!(.int (d*rnk ls k (s,t))):=dF (!1) (!1);have ml:az (.int (ls.length:Int)) (.int (t:Int))=!(.int ((ls.length:Int)*(t:Int))):=vH (show ls.length<1000000 by omega);refine⟨_,q_st (FM (d:=sdD (c,d)) (Y':=[!(.sh,lpD ps),!(.sh,lzsD ls),!(.sh,.int (k:Int)),!(.deep,.lst ((V.map λw=>(rkd (rnk ls k (s,t)) (lpl ps t w),w)).map fdD)),!(.sh,wD w),!(.sh,.int s),!(.sh,.int (t:Int)),!(.sh,.int c),!(.sh,.int d),none]) ?_ rfl)
     (q_st (fT (ds:=(V.map λw=>(rkd (rnk ls k (s,t)) (lpl ps t w),w)).map fdD) (ds0:=(V.map λw=>(rkd (rnk ls k (s,t)) (lpl ps t w),w)).map fdD) (c0:=.deep) (d:=fdD ((c,d*rnk ls k (s,t)),w)) rfl (evX_lf ?_ ?_) rfl ?_) rfl),⟨_,rfl,⟨!(.sh,wD w),!(.sh,.int c),!(.sh,.int d),?_⟩⟩⟩
    .show clF co _ [!(lpD ps),!(lzsD ls),!(.int (k:Int)),none,!(wD w),!(.int s),!(.int (t:Int)),Ab o7,Ab o8,none]=_;simp only[sB,ec]
    .show tpF _ [!(lpD ps),!(lzsD ls),!(.int (k:Int)),!(.lst ((V.map λw=>(rkd (rnk ls k (s,t)) (lpl ps t w),w)).map fdD)),!(wD w),!(.int s),!(.int (t:Int)),!(.int c),!(.int d),none]=_;simp only[sB,jC,bX,y3,length_map,ml,mr];rfl
    .show(lfD (sdD (c,d*rnk ls k (s,t)))&&(lfD (wD w)&&true))=true;rw[tT];rfl
    .rw[length_map,length_map];exact Ou (show V.length+1<=64 by omega) (!5)
    .rw[if_pos rfl,List.map_append];show _=[_,_,_,!(Cat.deep,D.lst ((V.map λw=>(rkd (rnk ls k (s,t)) (lpl ps t w),w)).map fdD++[fdD (rkd (rnk ls k (s,t)) (lpl ps t w),w)])),_,_,_,_,_,_];rw[hL];rfl
 .rintro Y ⟨o4,o7,o8,rfl⟩;rw[List.take_length];have s1:s1F (x1 (va 3)) (vw [!(.sh,lpD ps),!(.sh,lzsD ls),!(.sh,.int (k:Int)),!(.deep,.lst ((((wds (!3)).filter (fitW s (!3))).map λw=>(rkd (rnk ls k (s,t)) (lpl ps t w),w)).map fdD)),o4,!(.sh,.int s),!(.sh,.int (t:Int)),o7,o8,none])=!(U.map fdD):=by
   show(x1 (va 3) _).bind bN=_;simp only[sB,u3]
  exact q_ret (evX_lfs (d:=.lst (U.map fdD)) (ds:=U.map fdD) (jG s1) rfl s1 (Iy U))
end K21
namespace K21
open PySem PySem.Spec PyProof.Rows L2
def places (hnx:sNext nx) (hop:sOpenL op) {k:Nat} (hv:Valid ps) (h64:prod ps<64) (h24:ls.length<=24) (h:∀l∈ls,LzOk ps l) (hk:ls[k]?=!l):
  ∃ (P:List Sd) (U:List (Sd×List Nat)),P.length<64/\op [lpD ps,lzsD ls,.int (k:Int)]=!(.deep,.lst (U.map fdD))/\U.map (·.1)=P/\∀b:Option Sd,valO (nx [au ps,lzsD ls,.int (k:Int),bD b])=!(bD (P.find? (byd b))):=by
 let⟨T,t1,t2,t3⟩:=hnx ps ls k l hv h64 h24 h hk
 let⟨U,u1,u2,u3⟩:=hop ps ls k l hv h64 h24 h hk
 have hr:=Cf hv h24 (h l (OE hk)) hk
 refine⟨T.map (rkd _),U,?_,u3,yP hr.1 t1 t2 u1 u2 ?_,t3⟩
 .rw[length_map,t1.length_eq];have:=vN hv l.1 l.2 (ps.drop l.2).length;rw[List.take_length]at this;omega
 .unfold sds;rw[List.map_map,List.map_map];rfl
end K21
namespace K16
open PySem PySem.Spec PyProof.Rows L2
def  jN:Cl:=(ac (ao 3 evE) (ac (frF (jR (x1 (va 2))) (eNm 4) (ac (AJ 3 (aa aP (aa bw (aa ixD (va 0) (aa aE (va 1) (aa aP (va 4) (cI 9)))) (aa aE (cI 2) (aa bw (va 4) (cI 9)))) (aa aE (va 4) (cI 1))) (va 4)) nxE)) (ac (rtN 3) nxE)))
def  iT (dJ:Fn):Cl:=(ac (ao 3 evE) (ac (frF (jX noV (clF dJ (x3 (va 0) (va 1) (va 2)))) (eNm 4) (ac (ao 5 (evV (aa bw (aa ixD (va 0) (aa aE (va 1) (aa aP (va 4) (cI 9)))) (aa aE (cI 64) (aa bw (va 4) (cI 9)))))) (ac (ifS (orQ (ag (aa (aD false) (va 3) (lsF (dpF af)))) (ag (aa gtD (aa aP (va 5) (cI 3)) (cI 0)))) (ac (i9 3 (evX (tpF (x2 (aa ixD (lsF (dpF (x4 (cS "any") (cS "row") (cS "come") (cS "any")))) (aa aP (aa bw (va 5) (cI 3)) (cI 4))) (lsF (dpF af)))) noV (fTp (x2 (frX (aa ixD (lsF (dpF (x4 (cS "any") (cS "row") (cS "come") (cS "any")))) (aa aP (aa bw (va 5) (cI 3)) (cI 4))) noV noV) (frX (lsF (dpF af)) (dpF af) (fLs af)))))) nxE) nxE) (ac (yo 3 (va 4)) nxE)))) (ac (rtN 3) nxE)))
def  iU:Cl:=(ac (ao 2 evE) (ac (frF (jX noV (va 1)) (eTp 2 (aL (eNm 3) (aL (eNm 4) gJ))) (ac (ifS (ag (aa (aD false) (va 3) (cS "any"))) (ac (i9 2 (evX (liG (!20) (s1F (!20))) (s1F (!20)) (fNo (!20)))) nxE) (ac (ifS (ag (aa (aD false) (va 3) (cS "row"))) (ac (orO (gx 2 (lsF (ah [6] (jX noV (va 4)) (gNm 6) tQ (lsF (dpF (x1 (va 6))))))) (yp 2 (evX (lsF (ah [6] (jX noV (va 4)) (gNm 6) tQ (lsF (dpF (x1 (va 6)))))) (ah [6] (jX noV (va 4)) (gNm 6) tQ (lsF (dpF (x1 (va 6))))) (fCo [6] (jX noV (va 4)) (gNm 6) tQ (frX (lsF (dpF (x1 (va 6)))) (dpF (x1 (va 6))) (fLs (x1 (frX (va 6) noV noV)))))))) nxE) (ac (ao 5 (evX (liG (x1 (lsF (ah [6] (jX noV (va 4)) (gNm 6) tQ (tpF (x2 (aa ixD (aa ixD (va 0) (va 6)) (cI 1)) (va 6)))))) (s1F (x1 (lsF (ah [6] (jX noV (va 4)) (gNm 6) tQ (tpF (x2 (aa ixD (aa ixD (va 0) (va 6)) (cI 1)) (va 6)))))))) (s1F (x1 (lsF (ah [6] (jX noV (va 4)) (gNm 6) tQ (tpF (x2 (aa ixD (aa ixD (va 0) (va 6)) (cI 1)) (va 6))))))) (fNo (x1 (lsF (ah [6] (jX noV (va 4)) (gNm 6) tQ (tpF (x2 (aa ixD (aa ixD (va 0) (va 6)) (cI 1)) (va 6))))))))) (ac (orO (gx 2 (lsF (ah [7] (jX noV (va 5)) (gNm 7) tQ (lsF (dpF (x1 (aa ixD (va 7) (cI 1)))))))) (yp 2 (evX (lsF (ah [7] (jX noV (va 5)) (gNm 7) tQ (lsF (dpF (x1 (aa ixD (va 7) (cI 1))))))) (ah [7] (jX noV (va 5)) (gNm 7) tQ (lsF (dpF (x1 (aa ixD (va 7) (cI 1)))))) (fCo [7] (jX noV (va 5)) (gNm 7) tQ (frX (lsF (dpF (x1 (aa ixD (va 7) (cI 1))))) (dpF (x1 (aa ixD (va 7) (cI 1)))) (fLs (x1 (frX (aa ixD (va 7) (cI 1)) noV noV)))))))) nxE))) nxE)) nxE)) (ac (rtN 2) nxE)))
def Iz (h:k<=n):D1 n (iN k)=!k:=by
 show(if 0<=(k:Int)/\(k:Int)<=(n:Int)then some (k:Int).toNat else none)=!k;rw[if_pos ⟨by omega,by omega⟩,Int.toNat_natCast]
def EK (h0:ownL Y i=!(.deep,ds)) (hk:fk (shv Y)=!(iN k)) (hkl:k<=ds.length) (hd:R (shv Y)=!d) (lf:lfD d=true) (hl:ds.length+1<big):
  AJ i fk R Y=!(.nx (Y.set i (dp (.lst (insL k ds d))))):=by
 unfold AJ
 simp only[h0,Option.bind_some,hk,Iz hkl,hd,lfO,lf]
 show(if ds.length+1<big then _ else _)=_
 rw[if_pos hl]
 rfl
def EL (f:α->β) (k:Nat) (l:List α) (x:α):insL k (l.map f) (f x)=(insL k l x).map f:=by simp[insL]
def Ci (k:Nat) (l:List α) (x:α):(insL k l x).Perm (l++[x]):=by
 refine List.perm_middle.trans ?_;rw[List.take_append_drop];grind
def  IA (f:Fn):Prop:=∀ (cs:N9) (m:Nat),cs.length=64->m<=24->∃r:N7,r.Perm (List.range m)/\f [scD cs,.int 54,iN m]=dp (aq r)
def Lk:IA (aC 3 5 jN):=λcs m hc hm=>by
 have fin:∃r:N7,jN [sn (scD cs),sn (.int 54),sn (iN m),none,none]=!(.rt (.deep,aq r))/\r.Perm (List.range m):=by
  refine bZ (evX_lfs rfl rfl rfl rfl) (x_rng (λi Y=>∃ (r:N7) (o4:N2),r.Perm (List.range i)/\Y=[sn _,sn _,sn (iN m),dp (aq r),o4]) (fR (a6 (!1))) ⟨[],none,.refl _,rfl⟩ ?_ ?_)
  .rintro i Y hi ⟨r,o4,pr,rfl⟩;have hl:r.length=i:=by rw[pr.length_eq,length_range]
   let⟨c,e1⟩:=jE (ns:=cs) (i:=54+(i:Int)%9) (!1) (!1);have p2:(0:Int)<2+(i:Int)/9:=by omega
   have mk:=md (c/(2+(i:Int)/9)) (show(0:Int)<(i:Int)+1 by omega);obtain⟨k,hk⟩:∃k:Nat,(k:Int)=c/(2+(i:Int)/9)%((i:Int)+1):=⟨(c/(2+(i:Int)/9)%((i:Int)+1)).toNat,by omega⟩;refine qh (EK (k:=k) rfl ?_ ?_ rfl rfl ?_) ⟨insL k r i,sn (iN i),?_,?_⟩
   .show aa aP _ _ [!(scD cs),!(.int 54),!(iN m),none,!(iN i)]=_;simp only[sB,bf (show(0:Int)<9 by decide),e1,aS (show(0:Int)<9 by decide) (!5),aS p2 (!1),bf (show(0:Int)<(i:Int)+1 by omega)];exact congrArg (λz:Int=>!_) hk.symm
   .rw[length_map];omega
   .rw[length_map];exact lt_big (!1)
   .rw[List.range_succ];exact(Ci k r i).trans (pr.append_right _)
   .unfold aq;rw[<-EL];rfl
  .rintro Y ⟨r,o4,pr,rfl⟩;exact⟨r,rfl,pr⟩
 let⟨r,e,p⟩:=fin;exact⟨r,p,al rfl e⟩
def gh (g0:List Gr) (g:Gr):bv (g0++[g])=bv g0++g.2:=by unfold bv;rw[List.flatMap_append];simp
def Ll {gs:List Gr} (h:gs≠[]):∃g0 g,gs=g0++[g]:=⟨gs.dropLast,gs.getLast h,(List.dropLast_concat_getLast h).symm⟩
def IB {g0} {k:Nat} (hi:eB Y i=dp (gsD (g0++[(k,r)]))) (hR:R (shv Y)=!(iN a)) (h2:r.length<=24):
  yo i R Y=!(.nx (Y.set i (dp (gsD (g0++[(k,r++[a])]))))):=by
 unfold yo
 have d1:wC Y i=!((g0++[(k,r)]).map grD):=by unfold wC;rw[show ownL Y i=some _ by unfold ownL;rw[hi];rfl];rfl
 have d3:sY ((g0++[(k,r)]).map grD)=!(g0.length,.str (kdS k),r.map λ(k:Nat)=>D.int (k:Int)):=by
  unfold sY;have e:((g0++[(k,r)]).map grD).length-1=g0.length:=by rw[length_map,length_append];show g0.length+1-1=_;omega
  rw[if_neg (by rw[List.map_append];simp),e,List.map_append,getElem?_append_right (by rw[length_map];exact OF _),length_map,Nat.sub_self];exact if_pos rfl
 rw[d1,Option.bind_some,d3,Option.bind_some,hR,Option.bind_some,if_pos ⟨rfl,by show(r.map _).length+1<big;rw[length_map];exact lt_big (!1)⟩]
 have e4:((g0++[(k,r)]).map grD).set g0.length (.tup [.str (kdS k),.lst ((!8)++[iN a])])=(g0++[(k,r++[a])]).map grD:=by
  rw[List.map_append,List.set_append_right _ _ (by rw[length_map];exact OF _),length_map,Nat.sub_self,List.map_append];have e5:aq (r++[a])=.lst ((!8)++[iN a]):=by unfold aq;rw[List.map_append];rfl
  rw[<-e5];rfl
 rw[e4]
 rfl
def vP:∀gs:List Gr,okL (gs.map grD)=true/\aQ (gs.map grD)<=2
 |[]=>⟨rfl,Nat.zero_le _⟩
 |g::gs=>by
  let⟨h1,h2⟩:=vP gs;refine⟨?_,?_⟩
  .show((true&&(okL (g.2.map λ(k:Nat)=>D.int (k:Int))&&true))&&okL (gs.map grD))=true;rw[(jd g.2).1,h1];rfl
  .show max (max 0 (max (aQ (g.2.map λ(k:Nat)=>D.int (k:Int))+1) 0)+1) (aQ (gs.map grD))<=2;rw[(jd g.2).2];omega
def Lm (gs:List Gr):aD false (gsD gs) (.lst [])=!(.bl gs.isEmpty):=by
 unfold aD jt;have h1:okE (gsD gs)=true:=(vP gs).1;have h3:dep (gsD gs)<=50:=by show aQ _+1<=50;have:=(vP gs).2;omega
 rw[if_neg (by show¬ ((false&&_&&_)=true);simp),h1,decide_eq_true h3,if_pos (by rfl)];cases gs<;>rfl
def  IC (f:Fn):Prop:=∀ (cs:N9) (m:Nat),cs.length=64->m<=24->∃gs:List Gr,Good m gs/\f [scD cs,.int 54,iN m]=dp (gsD gs)
abbrev sGz (cs:N9) (m:Nat) (gs:List Gr) (o4 o5:N2):Ev:=[sn (scD cs),sn (.int 54),sn (iN m),dp (gsD gs),o4,o5]
def Ln (ho:IA od):IC (aC 3 6 (iT od)):=λcs m hc hm=>by
 let⟨r,pr,er⟩:=ho cs m hc hm;have hl:r.length=m:=by rw[pr.length_eq,length_range]
 have key:∃gs,iT od [sn (scD cs),sn (.int 54),sn (iN m),none,none,none]=!(.rt (.deep,gsD gs))/\Good m gs:=by
  refine bZ (evX_lfs rfl rfl rfl rfl) (x_for (xs:=r) (mk:=λ(k:Nat)=>D.int (k:Int)) (λi Y=>∃gs o4 o5,bv gs=r.take i/\(∀g∈gs,g.2≠[]/\g.1<3)/\Y=sGz cs m gs o4 o5) ?_ ⟨[],none,none,rfl,(λ_ h=>nomatch h),rfl⟩ ?_ ?_)
  .show jX noV (clF od _) [!(scD cs),!(.int 54),!(iN m),none,none,none]=_;rw[aR];simp only[sB,Ex,nJ,er];rfl
  .rintro i a Y ha ⟨gs,o4,o5,hf,hg,rfl⟩;have ham:=OD.mp (pr.mem_iff.mp (OE ha));let⟨x,ex⟩:=jE (ns:=cs) (i:=54+(a:Int)%9) (!1) (!1);have p64:(0:Int)<64+(a:Int)/9:=by omega
   generalize hy:x/(64+(a:Int)/9)=y;have m4:=md (y/3) (show(0:Int)<4 by decide);let⟨d,⟨k,k3,rfl⟩,ek⟩:=HX (ds:=[.str "any",.str "row",.str "come",.str "any"]) (λd=>∃k,k<3/\d=.str (kdS k)) m4.1 m4.2 (by
    intro d hd;simp only[mem_cons,List.not_mem_nil,or_false]at hd;rcases hd with rfl|rfl|rfl|rfl
    .exact⟨0,by decide,rfl⟩
    .exact⟨2,by decide,rfl⟩
    .exact⟨1,by decide,rfl⟩
    .exact⟨0,by decide,rfl⟩)
   have tk:r.take (i+1)=r.take i++[a]:=by rw[List.take_succ,ha];rfl
   have hfl:(bv gs).length<=24:=by rw[hf,List.length_take];omega
   have gl:=jI λg h=>(hg g h).1;have tail:∀ (g0:List Gr) (k:Nat) (q:N7),bv (g0++[(k,q)])=bv gs->(∀g∈g0,g.2≠[]/\g.1<3)->k<3->∃Y',ac (yo 3 (va 4)) nxE (sGz cs m (g0++[(k,q)]) (sn (iN a)) (dp (.int y)))=!(.nx Y')/\∃gs o4 o5,bv gs=r.take (i+1)/\(∀g∈gs,g.2≠[]/\g.1<3)/\Y'=sGz cs m gs o4 o5:=by
    intro g0 k q hq h0 hk;have hql:q.length<=(bv gs).length:=by rw[<-hq,gh,length_append];show q.length<=_+q.length;omega
    refine qh (IB rfl rfl (!1)) ⟨g0++[(k,q++[a])],sn (iN a),dp _,?_,λg hg'=>?_,rfl⟩
    .rw[tk,<-hf,<-hq,gh,gh];exact(List.append_assoc _ _ _).symm
    .rcases mem_append.mp hg' with h|h
     .exact h0 g h
     .rw[mem_singleton.mp h];exact⟨by simp,hk⟩
   refine K21.x_tg (Y1:=sGz cs m gs _ o5) rfl (bZ (s:=(.deep,.int y)) (evX_lf ?_ rfl) ?_)
   .simp only[sB,sGz,bf (show(0:Int)<9 by decide),ex,aS (show(0:Int)<9 by decide) (!5),aS p64 (!1),hy]
   .have ct:orQ (ag (aa (aD false) (va 3) (lsF (dpF af)))) (ag (aa gtD (aa aP (va 5) (cI 3)) (cI 0))) (vw (sGz cs m gs (sn (iN a)) (dp (.int y))))=!(gs.isEmpty||decide (0<y%3)):=by
     simp only[sB,sGz,pV,HK,Lm,bf (show(0:Int)<3 by decide),vA];cases gs.isEmpty<;>rfl
    cases hb:(gs.isEmpty||decide (0<y%3))with
    |true=>
     rw[hb]at ct;refine oO ct ⟨_,(am (B4 (s:=(.deep,grD (k,[]))) rfl (!5) ?_ ?_)).trans rfl,?_⟩
     .have kk:aa ixD (lsF (dpF (x4 (cS "any") (cS "row") (cS "come") (cS "any")))) (aa aP (aa bw (va 5) (cI 3)) (cI 4)) (vw (sGz cs m gs (sn (iN a)) (dp (.int y))))=!(.str (kdS k)):=by
       simp only[sB,sGz,x4,Ex,nJ,Ih,aS (show(0:Int)<3 by decide) (!5),bf (show(0:Int)<4 by decide),Ni,ek]
      have f1:=BW (L:=noV) (Sp:=noV) kk rfl;have f2:frX (lsF (dpF af)) (dpF af) (fLs af) (vw (sGz cs m gs (sn (iN a)) (dp (.int y))))=!_:=rK rfl rfl rfl;refine evX_call (d:=grD (k,[])) ?_ rfl rfl ?_
      .show tpF _ (vw (sGz cs m gs (sn (iN a)) (dp (.int y))))=_;rw[jC,nJ,consX_a,kk];rfl
      .show fTp _ (vw (sGz cs m gs (sn (iN a)) (dp (.int y))))=_;rw[Bj,nJ,consX_a,f1,je,consX_a,f2];rfl
     .rw[length_map];exact lt_big (!1)
     .have t:=tail gs k [] (by rw[gh];exact List.append_nil _) hg k3;have e:gsD (gs++[(k,[])])=.lst (gs.map grD++[grD (k,[])]):=by unfold gsD;rw[List.map_append];rfl
      rw[show sGz cs m (gs++[(k,[])]) (sn (iN a)) (dp (.int y))=[sn _,sn _,sn (iN m),dp (.lst _),sn (iN a),dp _]by rw[<-e]]at t;exact t
    |false=>
     rw[hb]at ct;have hne:gs≠[]:=λz=>by rw[z]at hb;cases hb
     let⟨g0,⟨k',q⟩,rfl⟩:=Ll hne;refine oO ct ⟨_,rfl,?_⟩;exact tail g0 k' q rfl (λg h=>hg g (Oz _ h)) (hg _ (OA _ (mem_singleton.mpr rfl))).2
  .rintro Y ⟨gs,o4,o5,hf,hg,rfl⟩;refine⟨gs,rfl,⟨?_,λg h=>(hg g h).1,λg h=>(hg g h).2,hm⟩⟩;rw[hf,List.take_length];exact pr
 let⟨gs,e,G⟩:=key;exact⟨gs,G,al rfl e⟩
def Cj (hl:bp ls) (ms:N9) (h:ms.length<64):bN [.lst (ms.map (keyL ls))]=!((a7 ls ms).map (keyL ls)):=by
 let⟨T,p,s,e⟩:=K21.sort_sd (S:=ms.map λa=>(bP ls a,a)) (by rw[length_map];exact h);have hT:∀q∈T,q.1=bP ls q.2:=λq hq=>by
  let⟨a,_,rfl⟩:=Ox.mp (p.mem_iff.mp hq);rfl
 have e1:T.map (·.2)=a7 ls ms:=by
  refine w6 hl ?_ ?_
  .have:=p.map (·.2);rw[List.map_map]at this;exact this.trans (List.Perm.of_eq (List.map_id ms))
  .refine List.pairwise_map.mpr (s.imp_of_mem λ{a b} ha hb hab=>?_);unfold rH;rw[<-hT a ha,<-hT b hb];exact hab
 have e2:ms.map (keyL ls)=(ms.map λa=>(bP ls a,a)).map K21.sdD:=by rw[List.map_map];rfl
 have e3:T.map K21.sdD=(T.map (·.2)).map (keyL ls):=by
  rw[List.map_map];refine List.map_congr_left λq hq=>?_;show K21.sdD q=.tup [.int (bP ls q.2),.int q.2];rw[<-hT q hq];rfl
 rw[e2,e,e3,e1]
def Ck (hl:bp ls) (ms:N9):(a7 ls ms).length=ms.length:=(iq hl ms).length_eq
abbrev sLz (ls:Lts) (gs:List Gr) (o2 o3 o4 o5:N2):Ev:=[sn (lsD' ls),sn (gsD gs),o2,o3,o4,o5,none,none]
def vR {ns:N9} {J:dl} (hJ:J Y=!(ns.map mk)) (hR:∀a∈ns,lh (gNm m) tQ fe (eW [m] Y) (mk a)=!(!(.lst [.int a]))) (hl:ns.length<=24):ah [m] J (gNm m) tQ fe Y=!((ns.map ([·])).map scD):=by
 rw[List.map_map];exact aw hJ hR (lt_big (!1))
def Lo {x:α} {y:β} (h:f x=!y):orO f g x=!y:=by unfold orO;rw[h]
def Lp {f g:α->Option β} (h:f x=none):orO f g x=g x:=by unfold orO;rw[h]
def ID (h1:R (shv Y)=none) (h2:R (vw Y)=!(.lst es)) (h3:lfL es=false):gx i R Y=none:=by
 unfold gx orO qS DN;rw[h1,h2];cases ownL Y i with
 |none=>rfl
 |some w=>
  show(if w.2.length+es.length<big/\lfL es=true then _ else none)=none;rw[h3];exact if_neg λz=>Om z.2
def IE (h0:eB Y i=!(c,.lst ds)) (hc:c≠.sh) (h:g Y=!((c',.lst es),Y)) (hl:ds.length+es.length<big):yp i g Y=!(.nx (Y.set i (!(extC c es,.lst (ds++es))))):=by
 unfold yp;rw[ub h0 hc,Option.bind_some,h,Option.bind_some];rw[ub h0 hc,Option.bind_some];show(if ds.length+es.length<big then _ else _)=_;rw[if_pos hl]
def IF:yO (aC 2 8 iU):=λm ls gs hl hm G=>by
 have key:∃c,iU (sLz ls gs none none none none)=!(.rt (c,lvD (levs ls gs)))/\c≠Cat.sh:=by
  refine bZ (evX_lfs rfl rfl rfl rfl) (x_for (λi Y=>∃c o3 o4 o5,c≠Cat.sh/\Y=sLz ls gs (!(c,lvD (levs ls (gs.take i)))) o3 o4 o5) rfl ⟨.deep,none,none,none,by simp,rfl⟩ ?_ ?_)
  .rintro i ⟨k,r⟩ Y hx ⟨c,o3,o4,o5,hc,rfl⟩;have gm:=OE hx;have hfl:=G.len;have hle:=G.le;have hr:r.length<=24:=by have:=vK gm;have:r.length<=(bv gs).length:=this;omega
   have hz:(izs r).length<=24:=by rw[mo];exact hr
   have n1:∀x∈gs.take i,x.2≠[]:=λx hx=>G.ne x (List.mem_of_mem_take hx);have b1:=(fU hl n1).1;have b2:=qo (gs:=gs) (i:=i);have lvs:levs ls (gs.take (i+1))=levs ls _++levG ls (k,r):=km hx;refine K21.x_tg (Y1:=sLz ls gs (!(c,lvD (levs ls _))) (sn (.str (kdS k))) (sn _) o5) rfl ?_;rcases(show k=0\/k=1\/k=2 by have:k<3:=G.kd _ gm;omega)with rfl|rfl|rfl
   .have s1:∀o5:N2,s1F (!20) (vw (sLz ls gs (!(c,lvD (levs ls (gs.take i)))) (sn (.str (kdS 0))) (sn (aq r)) o5))=!((eE (izs r)).map D.int):=λo5=>by
     show(x1 (va 4) _).bind bN=_;simp only[sB,sLz,jy (t9 hr)]
    refine oO rfl ⟨_,(am (B4 rfl hc (evX_lfs (jG (s1 _)) rfl (s1 _) (rJ _)) ?_)).trans rfl,nI ⟨newCat c (.deep,scD (eE (izs r))),sn (.str (kdS 0)),sn (aq r),o5,j8 _ _,?_⟩⟩
    .rw[length_map];exact lt_big (!1)
    .rw[lvs,mv];rfl
   .have lc:=Ck hl (izs r);have at1:∀a∈izs r,ixD (lsD' ls) (.int a)=!(.tup [.int (ls.getD a.toNat (0,0)).1,.int (bP ls a)]):=λa ha=>by
     let⟨n,hn,rfl⟩:=Ox.mp ha;have hlt:n<ls.length:=by rw[hm];exact G.lt gm hn
     have q:=aM (mk:=ltD') (getElem?_eq_getElem hlt);have e:ls.getD (n:Int).toNat (0,0)=ls[n]:=by
      rw[Int.toNat_natCast,List.getD_eq_getElem?_getD,getElem?_eq_getElem hlt];rfl
     unfold bP;rw[e];exact q
    have c1:∀o5:N2,ah [6] (jX noV (va 4)) (gNm 6) tQ (tpF (x2 (aa ixD (aa ixD (va 0) (va 6)) (cI 1)) (va 6))) (vw (sLz ls gs (!(c,lvD (levs ls (gs.take i)))) (sn (.str (kdS 1))) (sn (aq r)) o5))=!((izs r).map _):=λo5=>by
     refine aw (mk:=D.int) ?_ (λa ha=>?_) (lt_big (!1))
     .rw[aR];unfold izs;rw[List.map_map];rfl
     .have i1:ixD (.tup [.int (ls.getD a.toNat (0,0)).1,.int (bP ls a)]) (.int 1)=!(.int _):=rfl;simp only[sB,sLz,jC,nJ,at1 a ha,i1];rfl
    have s1:∀o5:N2,s1F (x1 (lsF (ah [6] (jX noV (va 4)) (gNm 6) tQ (tpF (x2 (aa ixD (aa ixD (va 0) (va 6)) (cI 1)) (va 6)))))) (vw (sLz ls gs (!(c,lvD (levs ls (gs.take i)))) (sn (.str (kdS 1))) (sn (aq r)) o5))=!((a7 ls (izs r)).map _):=λo5=>by
     show(x1 _ _).bind bN=_;rw[je,consX_a,lsF_a,c1];exact Cj hl _ (!1)
    have hne:a7 ls (izs r)≠[]:=λz=>by
     rw[z,mo]at lc;exact G.ne _ gm (List.length_eq_zero_iff.mp lc.symm)
    have lfn:lfL (((a7 ls (izs r)).map ([·])).map scD)=false:=by
     cases e:a7 ls (izs r)with
     |nil=>exact absurd e hne
     |cons y l=>rfl
    have c2:ah [7] (jX noV (va 5)) (gNm 7) tQ (lsF (dpF (x1 (aa ixD (va 7) (cI 1))))) (vw (sLz ls gs (!(c,lvD (levs ls (gs.take i)))) (sn (.str (kdS 1))) (sn (aq r)) (dp (.lst ((a7 ls (izs r)).map (keyL ls))))))=!(((a7 ls (izs r)).map ([·])).map scD):=
     vR (by rw[aR];rfl) (λa ha=>rfl) (!1)
    have c3:fCo [7] (jX noV (va 5)) (gNm 7) tQ (frX (lsF (dpF (x1 (aa ixD (va 7) (cI 1))))) (dpF (x1 (aa ixD (va 7) (cI 1)))) (fLs (x1 (frX (aa ixD (va 7) (cI 1)) noV noV)))) (vw (sLz ls gs (!(c,lvD (levs ls (gs.take i)))) (sn (.str (kdS 1))) (sn (aq r)) (dp (.lst ((a7 ls (izs r)).map (keyL ls))))))=!(.lst (((a7 ls (izs r)).map ([·])).map scD)):=by
     unfold fCo;rw[vR (by rw[aR];rfl) (λa ha=>rfl) (!1)];rfl
    refine oO rfl ⟨sLz ls gs (!(extC c (((a7 ls (izs r)).map ([·])).map scD),lvD (levs ls (gs.take i)++(a7 ls (izs r)).map ([·])))) (sn (.str (kdS 1))) (sn (aq r)) (dp (.lst ((a7 ls (izs r)).map (keyL ls)))),?_,nI ⟨extC c (((a7 ls (izs r)).map ([·])).map scD),sn (.str (kdS 1)),sn (aq r),dp (.lst ((a7 ls (izs r)).map (keyL ls))),mq hc _,?_⟩⟩
    .refine(am ((da rfl).trans ((am (bK (evX_lfs (jG (s1 _)) rfl (s1 _) (br λd hd=>by let⟨p,_,rfl⟩:=Ox.mp hd;rfl)))).trans (am ((Lp (ID rfl ((lsF_a).trans (congrArg _ c2)) lfn)).trans (IE rfl hc (mn ((lsF_a).trans (congrArg _ c2)) rfl c2 lfn c3) ?_)))))).trans ?_
     .rw[length_map,length_map,length_map];exact lt_big (!1)
     .rw[mv];rfl
    .rw[lvs];rfl
   .have c1:ah [6] (jX noV (va 4)) (gNm 6) tQ (lsF (dpF (x1 (va 6)))) (shv (sLz ls gs (!(c,lvD (levs ls (gs.take i)))) (sn (.str (kdS 2))) (sn (aq r)) o5))=!(((izs r).map ([·])).map scD):=by
     refine vR (mk:=D.int) ?_ (λa ha=>?_) hz
     .rw[aR];unfold izs;rw[List.map_map];rfl
     .rfl
    refine oO rfl ⟨sLz ls gs (!(extC c (((izs r).map ([·])).map scD),lvD (levs ls (gs.take i)++(izs r).map ([·])))) (sn (.str (kdS 2))) (sn (aq r)) o5,?_,nI ⟨extC c (((izs r).map ([·])).map scD),sn (.str (kdS 2)),sn (aq r),o5,mq hc _,?_⟩⟩
    .refine(am ((ifS_t rfl).trans (am (Lo (B3 (es:=((izs r).map ([·])).map scD) rfl hc ?_ ?_))))).trans ?_
     .rw[lsF_a,c1];rfl
     .rw[length_map,length_map,length_map];exact lt_big (!1)
     .rw[mv];rfl
    .rw[lvs];rfl
  .rintro Y ⟨c,o3,o4,o5,hc,rfl⟩;refine⟨c,?_,hc⟩;rw[List.take_length];rfl
 let⟨c,e,hc⟩:=key;exact⟨c,hc,al rfl e⟩
end K16
namespace K16
open PySem PySem.Spec PyProof.Rows L2
def  gT (fl:Str->Str->Bool) (kt:Fn) (mt_codes:MT) (kk:Nat) (ay ck:Fn):Cl:=(ac (lj (clF ck (x2 (va 0) (va 1)))) (ac (ifS (cC (trF (clF ay (x3 (va 2) (cI 0) (aa bU (meF (va 0) af mt_codes kk "codes") (cI 1)))))) (ac noO' nxE) nxE) (ac (ao 3 evE) (ac (ao 4 (evV (meF (va 0) af mt_codes kk "codes"))) (ac (ao 5 (evV (va 2))) (ac (frF (jX (vtF (x1 (slF (flF fl "passes" (va 0)) (c4 (va 1)) noP))) (biF noD (x1 (slF (flF fl "passes" (va 0)) (c4 (va 1)) noP)))) (eNm 6) (ac (ao 4 (evV (aa bw (va 4) (lnF (va 6))))) (ac (ao 7 (evV (aa bw (va 5) (va 4)))) (ac (ao 5 (evC kt (x3 (aa ixD (aa ixD (va 6) (va 7)) (cI 0)) (va 4) (aa bU (va 5) (aa az (va 7) (va 4)))))) (ac (yz 3 7 (evV (va 7)) (va 7)) nxE))))) (ac (ifS (ag (aa (aD true) (va 5) (aa bU (va 4) (cI 1)))) (rtF (evV cN)) nxE) (rtF (evX (tvF (x1 (va 3))) noV (fNo (x1 (biF noD (x1 (va 3))))))))))))))
def  gi (fl:Str->Str->Bool) (bE:Fn):Cl:=(rtF (evC bE (x1 (flF fl "passes" (va 0)))))
def  sCM (mt:MT) (k:Nat):Prop:=∀ps:N0,Valid ps->lm mt k "codes" (au ps) []=!(.deep,.int (prod ps:Nat))
def Nw {fl co} (hfl:fl "Mill" "passes"=true) (hc:jb co) {ps:N0} (hv:Valid ps):aC 1 1 (gi fl co) [au ps]=!(.deep,.int (prod ps:Nat)):=by
 have fm:qN fl "passes" (au ps)=!(gu ps):=by simp[qN,au,hfl]
 have hp:co [gu ps]=!(.deep,.int (prod ps:Nat)):=yG hc ps λp hp=>by have:=(hv.p hp).2.1;omega
 refine al rfl ?_;show gi fl co [!(.sh,au ps)]=_;unfold gi;refine q_ret (evX_lf (d:=.int (prod ps:Nat)) ?_ rfl);simp only[sB,Fy,fm,hp]
def Lq (h:(xs Y).bind rvT=!ds):jX (vtF xs) R Y=!ds:=by
 unfold jX orO vtF;simp[h]
noncomputable def  layN (q:Bool) (a c:Nat):Nat:=if q=true then c else a-1-c
def xm (q:Bool) (h:c<a):layN q a c<a:=by unfold layN;split<;>omega
def Cm (q:Bool) {a c:Nat} (h:c<a):lay q (a:Int) (c:Int)=((layN q a c:Nat):Int):=by
 unfold lay layN;split<;>omega
def EM (q:Bool) {a c:Nat} (h:c<a):lay q (a:Int) ((layN q a c:Nat):Int)=(c:Int):=by
 unfold lay layN;split<;>omega
def  bk1 (s:Nat×Nat×List Nat) (p:List Pk):Nat×Nat×List Nat:=(s.1/p.length,layN (pkAt (s.2.1/(s.1/p.length),p)).1 (s.1/p.length) (s.2.1%(s.1/p.length)),s.2.2++[s.2.1/(s.1/p.length)])
def  bks (s:Nat×Nat×List Nat) (rs:N0):Nat×Nat×List Nat:=rs.foldl bk1 s
def ue (s) (rs:N0) (i:Nat) (p) (h:rs[i]?=!p):bks s (rs.take (i+1))=bk1 (bks s (rs.take i)) p:=by
 unfold bks;rw[List.take_succ,h];simp
def rR:∀ {ps:N0},(∀p∈ps,1<=p.length)->1<=prod ps
 |[],_=>OF 1
 |p::r,h=>Nat.mul_le_mul (h p (Oo ..)) (rR λq hq=>h q (Op _ hq))
def xn (hv:Valid ps) (k:Nat):1<=prod (ps.take k)/\prod (ps.take k)<=1000/\prod ps=prod (ps.take k)*prod (ps.drop k):=by
 have h1:1<=prod (ps.take k):=rR λp hp=>(hv.p (List.mem_of_mem_take hp)).1;have h2:1<=prod (ps.drop k):=rR λp hp=>(hv.p (List.mem_of_mem_drop hp)).1;have h3:prod ps=prod (ps.take k)*prod (ps.drop k):=by rw[<-db,List.take_append_drop]
 have h4:=hv.codes;have h5:prod (ps.take k)*1<=prod (ps.take k)*prod (ps.drop k):=Nat.mul_le_mul_left _ h2;grind
def rev_at {ps:N0} (h:(!3).reverse[i]?=!p):i+t<ps.length/\ps[ps.length-1-i]?=!p:=by grind
structure BkOk (ps:N0) (c i:Nat) (s:Nat×Nat×List Nat):Prop where
 a:s.1=prod (ps.take (ps.length-i))
 l:s.2.1<s.1
 n:s.2.2.length=i
 w:∀q∈s.2.2.reverse.zip (ps.drop (ps.length-i)),q.1<q.2.length
 c:FH ((s.1:Nat),(s.2.1:Nat)) (s.2.2.reverse.zip (ps.drop (ps.length-i)))=(((prod ps:Nat):Int),(c:Int))
def xo (hv:Valid ps) (ok:BkOk ps c i s) (hp:(!3).reverse[i]?=!p):
  s.1/p.length=prod (ps.take (ps.length-(i+1)))/\s.1=s.1/p.length*p.length/\0<s.1/p.length/\s.1/p.length<=1000/\s.2.1/(s.1/p.length)<p.length/\s.2.1%(s.1/p.length)<s.1/p.length:=by
 let⟨hi,hp⟩:=rev_at hp
 have hq:=hv.p (OE hp)
 have e1:ps.length-i=(ps.length-1-i)+1:=by omega
 have e2:ps.length-(i+1)=ps.length-1-i:=by omega
 have eP:s.1=prod (ps.take (ps.length-1-i))*p.length:=by rw[ok.a,e1,List.take_succ,hp,Option.toList_some,bL]
 have ht:=xn hv (ps.length-1-i)
 have eA:s.1/p.length=prod (ps.take (ps.length-1-i)):=by rw[eP];exact Nat.mul_div_cancel _ (!1)
 rw[eA,e2]
 refine⟨rfl,eP,by omega,by omega,?_,Nat.mod_lt _ (!1)⟩
 have:=ok.l
 rw[eP]at this
 exact Nat.div_lt_of_lt_mul this
def EN (hv:Valid ps) (ok:BkOk ps c i s) (hp:(!3).reverse[i]?=!p):BkOk ps c (i+1) (bk1 s p):=by
 let⟨h1,h2,h3,h4,h5,h6⟩:=xo hv ok hp;let⟨hi,hp'⟩:=rev_at hp;have e2:ps.length-(i+1)=ps.length-1-i:=by omega
 have e1:ps.length-i=(ps.length-1-i)+1:=by omega
 have ed:ps.drop (ps.length-(i+1))=p::ps.drop (ps.length-i):=by
  rw[e2,e1];have hl:ps.length-1-i<ps.length:=by omega
  rw[List.drop_eq_getElem_cons];rw[getElem?_eq_getElem hl]at hp';cases hp';rfl
 have er:(s.2.2++[s.2.1/(s.1/p.length)]).reverse=(s.2.1/(s.1/p.length))::s.2.2.reverse:=by rw[List.reverse_append];rfl
 have ez:(bk1 s p).2.2.reverse.zip (ps.drop (ps.length-(i+1)))=(s.2.1/(s.1/p.length),p)::s.2.2.reverse.zip (ps.drop (ps.length-i)):=by
  show(s.2.2++[s.2.1/(s.1/p.length)]).reverse.zip _=_;rw[er,ed,List.zip_cons_cons]
 refine⟨h1,xm _ h6,?_,?_,?_⟩
 .show(s.2.2++[s.2.1/(s.1/p.length)]).length=i+1;rw[length_append,ok.n];rfl
 .rw[ez];intro q hq;rcases mem_cons.mp hq with rfl|hq
  .exact h5
  .exact ok.w q hq
 .rw[ez,<-ok.c];show FH (stp (((s.1/p.length:Nat):Int),((layN (pkAt (s.2.1/(s.1/p.length),p)).1 (s.1/p.length) (s.2.1%(s.1/p.length)):Nat):Int)) (s.2.1/(s.1/p.length),p)) _=_;have es:stp (((s.1/p.length:Nat):Int),((layN (pkAt (s.2.1/(s.1/p.length),p)).1 (s.1/p.length) (s.2.1%(s.1/p.length)):Nat):Int)) (s.2.1/(s.1/p.length),p)=(((s.1:Nat):Int),((s.2.1:Nat):Int)):=by
   unfold stp;rw[EM _ h6];refine Prod.ext ?_ ?_
   .show(((s.1/p.length:Nat):Int))*((p.length:Nat):Int)=_;rw[<-Int.natCast_mul,<-h2]
   .show(((s.2.1/(s.1/p.length):Nat):Int))*((s.1/p.length:Nat):Int)+((s.2.1%(s.1/p.length):Nat):Int)=((s.2.1:Nat):Int);rw[<-Int.natCast_mul,<-Int.natCast_add,Nat.div_add_mod']
  rw[es]
def Nx (hc:c<prod ps):BkOk ps c 0 (prod ps,c,[]):=by
 refine⟨by rw[Nat.sub_zero,List.take_length],hc,rfl,λq hq=>?_,rfl⟩;have hq':=hq;simp at hq'
def Co (hv:Valid ps) (hc:c<prod ps) (t:Nat):∀i,i<=ps.length-t->BkOk ps c i (bks (prod ps,c,[]) ((!3).reverse.take i))
 |0,_=>Nx hc
 |i+1,h=>by
  have hi:i<(!3).reverse.length:=by rw[List.length_reverse,List.length_drop];omega
  rw[ue _ _ _ _ (getElem?_eq_getElem hi)];exact EN hv (Co hv hc t i (!1)) (getElem?_eq_getElem hi)
abbrev sW (ps:N0) (t c:Nat) (ws:N7) (A L:Nat) (o6 o7:N2):Ev:=[sn (au ps),sn (iN t),sn (iN c),dp (aq ws),dp (iN A),dp (iN L),o6,o7]
abbrev FB (la:Fn):Cl:=ac (ao 4 (evV (aa bw (va 4) (lnF (va 6))))) (ac (ao 7 (evV (aa bw (va 5) (va 4)))) (ac (ao 5 (evC la (x3 (aa ixD (aa ixD (va 6) (va 7)) (cI 0)) (va 4) (aa bU (va 5) (aa az (va 7) (va 4)))))) (ac (yz 3 7 (evV (va 7)) (va 7)) nxE)))
def cw_step {la} (hl:p0 la) {ps:N0} (hv:Valid ps) {t c i:Nat} {s:Nat×Nat×List Nat} (ok:BkOk ps c i s) {p:List Pk} (hp:(!3).reverse[i]?=!p) (o6 o7:N2):
  ∃q6 q7,(eNm 6 (tpD p) (sW ps t c s.2.2 s.1 s.2.1 o6 o7)).bind (FB la)=!(.nx (sW ps t c (bk1 s p).2.2 (bk1 s p).1 (bk1 s p).2.1 q6 q7)):=by
 let⟨h1,h2,h3,h4,h5,h6⟩:=xo hv ok hp
 let⟨hi,hp'⟩:=rev_at hp
 have h66:=hv.len
 have hq:=hv.p (OE hp')
 let⟨A,L,ws⟩:=s
 have hn:ws.length=i:=ok.n
 have h3:0<A/p.length:=h3
 have h4:A/p.length<=1000:=h4
 have h5:L/(A/p.length)<p.length:=h5
 have h6:L%(A/p.length)<A/p.length:=h6
 have eA:(A:Int)/(p.length:Int)=((A/p.length:Nat):Int):=rfl
 have eK:(L:Int)/((A/p.length:Nat):Int)=((L/(A/p.length):Nat):Int):=rfl
 show∃q6 q7,_=!(Out.nx (sW ps t c (ws++[L/(A/p.length)]) (A/p.length) (layN (pkAt (L/(A/p.length),p)).1 (A/p.length) (L%(A/p.length))) q6 q7))
 have eM:(L:Int)-((L/(A/p.length):Nat):Int)*((A/p.length:Nat):Int)=((L%(A/p.length):Nat):Int):=by
  have:=Nat.div_add_mod' L (A/p.length);have e:((L/(A/p.length):Nat):Int)*((A/p.length:Nat):Int)=((L/(A/p.length)*(A/p.length):Nat):Int):=(Int.natCast_mul _ _).symm;rw[e];omega
 generalize hB:A/p.length=B at*
 generalize hk:L/B=k at*
 have e0:∀q:Pk,ixD (pkD q) (.int 0)=!(.str (kd q.1)):=λq=>ly _ _
 have e6:ixD (tpD p) (iN k)=!(pkD (pkAt (k,p))):=K0 (q:=(k,p)) h5
 have e7:seqD (tpD p)=!(p.map pkD):=rfl
 have el:=hl (pkAt (k,p)).1 (B:Int) ((L%B:Nat):Int)
 rw[Cm _ h6]at el
 have ec:∀Y:Vv,bO Y 6=!(tpD p)->bO Y 7=!(iN k)->bO Y 4=!(iN B)->bO Y 5=!(iN L)->x3 (aa ixD (aa ixD (va 6) (va 7)) (cI 0)) (va 4) (aa bU (va 5) (aa az (va 7) (va 4))) Y=![.str (kd (pkAt (k,p)).1),.int (B:Int),.int ((L%B:Nat):Int)]:=λY g6 g7 g4 g5=>by
  simp only[sB,g4,g5,g6,g7,vH (show k<1000000 by omega),eM,e6,e0]
 refine⟨sn (tpD p),dp (iN k),?_⟩
 show ac _ _ (sW ps t c ws A L (sn (tpD p)) o7)=_
 refine q_set (evX_lf (d:=iN B) ?_ rfl) ?_
 .simp only[sB,bX,e7,length_map];rw[aS (show(0:Int)<(p.length:Int)by omega) (!1),eA]
 show ac _ _ (sW ps t c ws B L (sn (tpD p)) o7)=_;refine q_set (evX_lf (d:=iN k) ?_ rfl) ?_
 .simp only[sB];rw[aS (show(0:Int)<(B:Int)by omega) (!1),eK]
 show ac _ _ (sW ps t c ws B L (sn (tpD p)) (dp (iN k)))=_;refine q_set (evX_lf (d:=iN (layN (pkAt (k,p)).1 B (L%B))) ?_ rfl) ?_
 .rw[clF_a,ec _ rfl rfl rfl rfl,Option.bind_some,el];rfl
 refine q_st (pX (ds:=ws.map λ(k:Nat)=>D.int (k:Int)) (ds0:=ws.map λ(k:Nat)=>D.int (k:Int)) (c0:=.deep) (d:=iN k) rfl (evX_lf rfl rfl) rfl ?_) ?_
 .rw[length_map,hn];exact Ou (show i+1<=6 by omega) (!5)
 have em:aq (ws++[k])=.lst ((ws.map λ(k:Nat)=>D.int (k:Int))++[iN k]):=by unfold aq;rw[List.map_append];rfl
 simp only[sW,em];rfl
def cw_loop (hf:fl "Mill" "passes"=true) (hl:p0 la) (hv:Valid ps) (ht:t<=ps.length) (hc:c<prod ps):
  ∃o6 o7,frF (jX (vtF (x1 (slF (flF fl "passes" (va 0)) (c4 (va 1)) noP))) (biF noD (x1 (slF (flF fl "passes" (va 0)) (c4 (va 1)) noP)))) (eNm 6) (FB la) (sW ps t c [] (prod ps) c none none)=!(.nx (sW ps t c (bks (prod ps,c,[]) (!3).reverse).2.2 (bks (prod ps,c,[]) (!3).reverse).1 (bks (prod ps,c,[]) (!3).reverse).2.1 o6 o7)):=by
 let⟨Y',e,o6,o7,rfl⟩:=jB
  (J:=jX (vtF (x1 (slF _ _ noP))) (biF noD (x1 (slF _ _ noP))))
  (ds:=((!3).reverse).map tpD) (Y:=sW ps t c [] (prod ps) c none none)
  (λi Y=>∃o6 o7,Y=sW ps t c (bks (prod ps,c,[]) ((!3).reverse.take i)).2.2 (bks (prod ps,c,[]) ((!3).reverse.take i)).1 (bks (prod ps,c,[]) ((!3).reverse.take i)).2.1 o6 o7)
  (Lq (by
   have e:slF (flF fl "passes" (va 0)) (c4 (va 1)) noP (shv (sW ps t c [] (prod ps) c none none))=!(.tup _):=Ei hf rfl rfl;rw[je,consX_a,e];show some ((!3).map tpD).reverse=_;rw[List.map_reverse]))
  ⟨none,none,rfl⟩ (by
   rintro i d Y hd ⟨o6,o7,rfl⟩;rw[getElem?_map]at hd;cases hp:(!3).reverse[i]? with
   |none=>rw[hp]at hd;cases hd
   |some p=>
    rw[hp]at hd;cases hd;have hi:=(On.mp hp).1;rw[List.length_reverse,List.length_drop]at hi;let⟨q6,q7,e⟩:=cw_step hl hv (Co hv hc t i (!1)) hp o6 o7;refine⟨_,e,q6,q7,?_⟩;rw[ue _ _ _ _ hp])
 rw[length_map,List.take_length]at e
 exact⟨o6,o7,e⟩
def EO:∀ (rs:N0) (w:N7) (n:Nat) (c:K21.Sd) (ws:N7),0<n->0<=c.1->c.1<n->w.length=rs.length->(∀q∈w.zip rs,q.1<q.2.length)->
  0<=(K21.pl n rs w c).1/\(K21.pl n rs w c).1<((n*prod rs:Nat):Int)/\bks (n*prod rs,(K21.pl n rs w c).1.toNat,ws) rs.reverse=(n,c.1.toNat,ws++w.reverse):=by
 refine K21.rev_ind (λw n c ws hn h0 h1 hl hw=>?_) λrs p ih w n c ws hn h0 h1 hl hw=>?_
 .cases w with
  |nil=>
   refine⟨h0,by show c.1<((n*1:Nat):Int);rw[Nat.mul_one];exact h1,?_⟩;show(n*1,c.1.toNat,ws)=(n,c.1.toNat,ws++[]);rw[Nat.mul_one,List.append_nil]
  |cons _ _=>cases hl
 .obtain⟨v,k,rfl⟩:∃v k,w=v++[k]:=by
   have hne:w≠[]:=λz=>by rw[z,length_append]at hl;cases hl
   exact⟨w.dropLast,w.getLast hne,(List.dropLast_concat_getLast hne).symm⟩
  have hl':v.length=rs.length:=by rw[length_append,length_append]at hl;exact Nat.add_right_cancel hl
  rw[List.zip_append hl']at hw;have hk:k<p.length:=hw (k,p) (OA _ Oo);have hp:0<p.length:=by omega
  have hw':∀q∈v.zip rs,q.1<q.2.length:=λq hq=>hw q (Oz _ hq);rw[K21.pl_snoc n c p k hl',bL,<-Nat.mul_assoc];let⟨_,_,b2⟩:=ih v n c (ws++[k]) hn h0 h1 hl' hw';generalize hm:n*prod rs=m at*;generalize K21.pl n rs v c=q at*;obtain⟨y,hy⟩:∃y:Nat,q.1=(y:Int):=⟨q.1.toNat,by omega⟩;have hym:y<m:=by omega
  have e0:pkAt (k,p)=K21.pkg p k:=by unfold pkAt K21.pkg;rw[List.getD_eq_getElem?_getD]
  have e1:(K21.pstep m k (K21.pkg p k) q).1=((k*m+layN (pkAt (k,p)).1 m y:Nat):Int):=by
   unfold K21.pstep layN;rw[e0,hy];split
   .push_cast;rfl
   .push_cast;omega
  have lz:=xm (pkAt (k,p)).1 hym;have ll:layN (pkAt (k,p)).1 m (layN (pkAt (k,p)).1 m y)=y:=by unfold layN;split<;>omega
  generalize layN (pkAt (k,p)).1 m y=z at*;rw[e1,Int.toNat_natCast];have d1:(k*m+z)/m=k:=by rw[Nat.add_comm,Nat.add_mul_div_right _ _ (!1),Nat.div_eq_of_lt lz,Nat.zero_add]
  have d2:(k*m+z)%m=z:=by rw[Nat.add_comm,Nat.add_mul_mod_self_right,Nat.mod_eq_of_lt lz]
  have d3:m*p.length/p.length=m:=Nat.mul_div_cancel _ hp;refine⟨by omega,?_,?_⟩
  .have:=Nat.mul_le_mul_right m (show k+1<=p.length by omega);rw[Nat.succ_mul,Nat.mul_comm p.length]at this;omega
  .rw[List.reverse_append,List.reverse_append];show bks (bk1 (m*p.length,k*m+z,ws) p) rs.reverse=_;have:bk1 (m*p.length,k*m+z,ws) p=(m,y,ws++[k]):=by
    unfold bk1;rw[d3,d1,d2,ll]
   rw[this];rw[hy,Int.toNat_natCast]at b2;rw[b2,List.append_assoc];rfl
def  sCW (f:Fn):Prop:=∀ (ps:N0) (t:Nat) (w:N7),Valid ps->t<=ps.length->w.length=(!3).length->(∀q∈w.zip (!3),q.1<q.2.length)->f [au ps,iN t,.int (K21.pl (prod (ps.take t)) (!3) w (((prod (ps.take t):Nat):Int)-1,1)).1]=dp (wD w)
def EQ {fl la mt kk wi lo} (hf:fl "Mill" "passes"=true) (hl:p0 la) (hm:sCM mt kk) (hw:ge wi) (hlo:vG lo):sCW (aC 3 8 (gT fl la mt kk wi lo)):=λps t w hv ht hlen hok=>by
 let⟨p1,p2,p3⟩:=xn hv t;let⟨b0,b1,b2⟩:=EO (!3) w (prod (ps.take t)) (((prod (ps.take t):Nat):Int)-1,1) [] (!1) (by show(0:Int)<=(prod (ps.take t):Nat)-1;omega) (by show((prod (ps.take t):Nat):Int)-1<_;omega) hlen hok;rw[<-p3]at b1 b2;obtain⟨c,hc⟩:∃c:Nat,(K21.pl (prod (ps.take t)) (!3) w (((prod (ps.take t):Nat):Int)-1,1)).1=(c:Int):=⟨_,(Int.toNat_of_nonneg b0).symm⟩;rw[hc]at b1 b2⊢;rw[Int.toNat_natCast]at b2;have hcp:c<prod ps:=by omega
 let⟨o6,o7,e⟩:=cw_loop hf hl hv ht hcp;rw[b2,List.nil_append]at e;dsimp only at e;have em:∀Y:Vv,bO Y 0=!(au ps)->meF (va 0) af mt kk "codes" Y=!(.int (prod ps:Nat)):=λY h=>by
  show valO (mW (va 0) af mt kk "codes" Y)=_;unfold mW;rw[va_a,h,Option.bind_some];show valO (lm mt kk "codes" (au ps) [])=_;rw[hm ps hv];rfl
 have e2:(decide ((c:Int)<=((prod ps:Nat):Int)-1))=true:=decide_eq_true (!1);refine al rfl ?_;show gT fl la mt kk wi lo [sn (au ps),sn (iN t),sn (iN c),none,none,none,none,none]=_;unfold gT;refine vJ (d:=.non) ?_ (q_if0 ?_ (q_set (evX_lfs (d:=.lst []) (ds:=[]) rfl rfl rfl rfl) (q_set (evX_lf (d:=.int (prod ps:Nat)) (em _ rfl) rfl) (q_set (evX_lf (d:=iN c) rfl rfl) (q_st e (q_if0 ?_ (q_ret (evX_lf ?_ (tT _)))))))))
 .simp only[sB,hlo ps t ht]
 .rw[notQ_a,trF_a,clF_a,Ex,consX_a,nJ,consX_a,je,consX_a,bin2_a,em _ rfl];simp only[sB,hw (c:Int) 0 (((prod ps:Nat):Int)-1),e2];rw[decide_eq_true (show(0:Int)<=(c:Int)by omega)];rfl
 .simp only[sB,tF];have:(((((prod (ps.take t):Nat):Int)-1).toNat:Nat):Int)=((prod (ps.take t):Nat):Int)-1:=by omega
  rw[this];simp
 .show some (D.tup (w.reverse.map λ(k:Nat)=>D.int (k:Int)).reverse)=_;rw[<-List.map_reverse,List.reverse_reverse];rfl
end K16
namespace K16
open PySem PySem.Spec PyProof.Rows L2
section
variable (F:Nat->List K21.Sd) (lvl:Nat->Nat)
def  due:Option K21.Sd->Int->N7->Bool
 |_,_,[]=>false
 |b,last,k::ch=>if(lvl k:Int)<=last then false else match(F k).find? (K21.byd b)with
  |none=>ch.isEmpty
  |some x=>due (!x) (lvl k) ch
end
structure Lvs (n:Nat) (lv:List (N9)) (lvl:Nat->Nat):Prop where
 lt:∀a,a<n->lvl a<lv.length
 at_:∀a,a<n->∀j,j<lv.length->((a:Int)∈lv.getD j []↔j=lvl a)
 le:lv.length<=100
def forD_ret {step}:∀ (ds:Oc) (I:Nat->Ev->Prop) (Y:Ev),I 0 Y->(∀ (i:Nat) (d:D) (Y:Ev),ds[i]?=!d->I i Y->(∃Y',step d Y=!(.nx Y')/\I (i+1) Y')\/step d Y=!(.rt val))->(∃Y',b8 step ds Y=!(.nx Y')/\I ds.length Y')\/b8 step ds Y=!(.rt val)
 |[],I,Y,h0,_=>.inl ⟨Y,rfl,h0⟩
 |d::ds,I,Y,h0,hs=>by
  rcases hs 0 d Y rfl h0 with⟨Y1,e1,i1⟩|e1
  .have:=forD_ret ds (λi=>I (i+1)) Y1 i1 (λi d Y hd hi=>hs (i+1) d Y (by simpa using hd) hi);show(∃Y',(step d Y).bind _=_/\_)\/(step d Y).bind _=_;rw[e1];exact this
  .right;show(step d Y).bind _=_;rw[e1];rfl
def q_rngR (I:Nat->Ev->Prop) (hJ:J (shv Y)=!((!16).map λ(i:Nat)=>D.int (i:Int))) (h0:I 0 Y) (hs:∀ (i:Nat) (Y:Ev),i<n->I i Y->(∃Y',Fb (Y.set s (sn (iN i)))=!(.nx Y')/\I (i+1) Y')\/Fb (Y.set s (sn (iN i)))=!(.rt val)) (k:∀Y',I n Y'->G Y'=!(.rt val)):ac (frF J (eNm s) Fb) G Y=!(.rt val):=by
 have e:∀o,b8 (iF (eNm s) Fb) ((!16).map λ(i:Nat)=>D.int (i:Int)) Y=!o->frF J (eNm s) Fb Y=!o:=λo h=>by
  unfold frF orO;rw[show c6 J (eNm s) Fb Y=some o by unfold c6;rw[hJ];exact h]
 rcases forD_ret (step:=iF (eNm s) Fb) ((!16).map λ(i:Nat)=>D.int (i:Int)) I Y h0 (λi d Y hd hi=>by
  rw[getElem?_map]at hd;have hlt:i<n:=by
   rcases Nat.lt_or_ge i n with z|z
   .exact z
   .rw[List.getElem?_eq_none (by rw[length_range];exact z)]at hd;cases hd
  rw[List.getElem?_range hlt]at hd;cases hd;exact hs i Y hlt hi)with⟨Y',e1,i1⟩|e1
 .rw[length_map,length_range]at i1;exact(am (e _ e1)).trans (k _ i1)
 .exact seqF_rt (e _ e1)
noncomputable def  vS (lv:List (N9)) (a:Nat):Nat:=lv.findIdx λl=>decide ((a:Int)∈l)
def IG (hl:bp ls) (G:Good m gs):Lvs m (levs ls gs) (vS (levs ls gs))/\∀a,a<m->ixD (ua (levs ls gs)) (iN a)=!(iN (vS (levs ls gs) a)):=by
 have pm:=iA hl gs;have nd:(levs ls gs).flatten.Nodup:=by
  refine pm.nodup_iff.mpr ?_;exact List.Pairwise.map _ (λa b (h:a≠b)=>show(a:Int)≠(b:Int)by omega) (G.pm.nodup_iff.mpr List.nodup_range)
 have le:=(fU hl G.ne).1;have hfl:=G.len;have hle:=G.le;have hex:∀a,a<m->∃l∈levs ls gs,(a:Int)∈l:=λa ha=>by
  refine List.mem_flatten.mp (pm.mem_iff.mpr (Ox.mpr ⟨a,G.pm.mem_iff.mpr (OD.mpr ha),rfl⟩))
 have hlt:∀a,a<m->vS (levs ls gs) a<(levs ls gs).length:=λa ha=>by
  let⟨l,h1,h2⟩:=hex a ha;exact List.findIdx_lt_length_of_exists ⟨l,h1,decide_eq_true h2⟩
 have hin:∀a (ha:a<m),(a:Int)∈(levs ls gs)[vS (levs ls gs) a]'(hlt a ha):=λa ha=>Oq (List.findIdx_getElem (p:=λl=>decide ((a:Int)∈l)));have hnu:∀a,a<m->ixD (ua (levs ls gs)) (iN a)=!(iN (vS _ a)):=λa ha=>xj nd (getElem?_eq_getElem _) (hin a ha);refine⟨⟨hlt,λa ha j hj=>?_,by omega⟩,hnu⟩;have gd:(levs ls gs).getD j []=(levs ls gs)[j]:=by rw[List.getD_eq_getElem?_getD,getElem?_eq_getElem hj];rfl
 rw[gd];constructor
 .intro h;have e:=xj nd (getElem?_eq_getElem hj) h;have e2:=hnu a ha;rw[show ixD (ua (levs ls gs)) (.int (a:Int))=some (.int (j:Int))from e]at e2;have e3:(j:Int)=(vS (levs ls gs) a:Int):=by injection e2 with e2;injection e2
  omega
 .rintro rfl;exact hin a ha
def  lI (ls:List K21.Lz):Lts:=ls.map λl=>(l.1,(l.2:Int))
def Lr (ls:List K21.Lz):K21.lzsD ls=lsD' (lI ls):=by
 unfold K21.lzsD lsD' lI;rw[List.map_map];rfl
def qr {step} (h:step d Y=!(.nx Y')) (k:b8 step ds Y'=out):b8 step (d::ds) Y=out:=by unfold b8;rw[h];exact k
def xp {step} (h:step d Y=!(.rt s)):b8 step (d::ds) Y=!(.rt s):=by unfold b8;rw[h];rfl
def frF_s (hJ:J (shv Y)=!ds) (h:b8 (iF tg F) ds Y=!o):frF J tg F Y=!o:=by
 unfold frF orO;rw[show c6 J tg F Y=some o by unfold c6;rw[hJ];exact h]
def Ny {b:Bool} (h:c (vw Y)=!b) (k1:(if b then F Y else G' Y)=!(.nx Y')) (k:G Y'=out):ac (ifS c F G') G Y=out:=by
 cases b with
 |true=>exact(am ((ifS_t h).trans k1)).trans k
 |false=>exact(am ((da h).trans k1)).trans k
def Ls (ha:fa Y=!(.lst a)) (hb:fb Y=!(.lst b)) (h:(a++b).length<big):mY fa fb Y=!(a++b):=by
 unfold mY;rw[ha,Option.bind_some,hb,Option.bind_some];exact dE h
def Lu (a:Int) (l:N9):inD (.int a) (scD l)=!(.bl (decide (a∈l))):=by
 have h1:(l.map D.int).all aZ=true:=by rw[List.all_map];simp[Function.comp,aZ]
 have h2:inL (.int a) (l.map D.int)=decide (a∈l):=by
  show(List.any ((l.map D.int).map toV) λy=>eqV y (toV (.int a)))=_;rw[List.map_map,List.any_map,Bool.eq_iff_iff,List.any_eq_true,decide_eq_true_iff];constructor
  .rintro⟨x,hx,e⟩;rwa [<-Oq e]
  .intro h;exact⟨a,h,show decide (a=a)=true from decide_eq_true rfl⟩
 show(if(aZ (.int a)&&(l.map D.int).all aZ)=true then !(D.bl (inL (.int a) (l.map D.int)))else none)=_;rw[h1,h2];rfl
end K16
namespace K16
open PySem PySem.Spec PyProof.Rows L2
def  oP:Cl:=(ac (frF (jX noV (va 0)) (eTp 2 (aL (eNm 2) (aL (eNm 3) gJ))) (ac (ifS (orQ (ag (aa (iE false) (va 1) cN)) (ag (aa gtD (va 2) (va 1)))) (rtF (evX (tpF (x2 (va 2) (va 3))) noV (fTp (x2 (frX (va 2) noV noV) (frX (va 3) noV noV))))) nxE) nxE)) (rtF (evV cN)))
def  rS (bn:Fn):Cl:=(ac (ao 2 (evX (lsF (ah [7] (jX noV (va 0)) (gNm 7) tQ (tpF af))) (ah [7] (jX noV (va 0)) (gNm 7) tQ (tpF af)) (fCo [7] (jX noV (va 0)) (gNm 7) tQ (frX (tpF af) noV (fTp af))))) (ac (ao 3 (evV cN)) (ac (frF (jX noV (va 1)) (eNm 4) (ac (ao 5 (evV (va 3))) (ac (frF (jX noV (va 4)) (eNm 6) (ac (ao 8 (evC bn (x2 (aa ixD (va 0) (va 6)) (va 3)))) (ac (ifS (ag (aa (iE false) (va 8) cN)) (rtF (evV cN)) nxE) (ac (nw 2 (va 6) (evV (aa ixD (va 8) (cI 1))) (aa ixD (va 8) (cI 1))) (ac (ifS (orQ (ag (aa (iE false) (va 5) cN)) (ag (aa gtD (aa ixD (va 8) (cI 0)) (va 5)))) (ac (ao 5 (evV (aa ixD (va 8) (cI 0)))) nxE) nxE) nxE))))) (ac (ao 3 (evV (va 5))) nxE)))) (ac (rtN 2) nxE))))
abbrev Pq:=K21.Sd×List Nat
abbrev Os:=Option K21.Sd
def  fbD:Option Pq->D
 |none=>.non
 |some q=>K21.fdD q
def  wsD (P:List (N7)):D:=.lst (P.map wD)
def FN (q:Pq):lfD (K21.fdD q)=true:=by
 show(lfD (K21.sdD q.1)&&(lfD (wD q.2)&&true))=true;rw[tT];rfl
def FO (q:Option Pq):lfD (fbD q)=true:=by cases q with
 |none=>rfl
 |some q=>exact FN q
def  lJ (U:Nat->List Pq) (b:Os) (a:Nat):Option Pq:=(U a).find? λq=>K21.byd b q.1
def  mx (l:Os) (p:K21.Sd):Os:=if K21.byd l p=true then !p else l
def  lv1 (U:Nat->List Pq) (b:Os):N7->Os->List (N7)->Option (Os×List (N7))
 |[],l,P=>!(l,P)
 |a::L,l,P=>(lJ U b a).bind λq=>lv1 U b L (mx l q.1) (P.set a q.2)
def  run (U:Nat->List Pq):List (N7)->Os->List (N7)->Option (List (N7))
 |[],_,P=>!P
 |L::lv,b,P=>(lv1 U b L b P).bind λs=>run U lv s.1 s.2
def Lv (p q:K21.Sd):gtD (K21.sdD p) (K21.sdD q)=!(.bl (HT.lexLt [q.1,q.2] [p.1,p.2])):=rfl
def FP {b:Os} (ha:A Y=!(K21.bD b)) (hb:B Y=!(K21.sdD p)):orQ (ag (aa (iE false) A cN)) (ag (aa gtD B A)) Y=!(K21.byd b p):=by
 simp only[pV,testB_a,bin2_a,ha,hb,MV,Option.bind_some];cases b with
 |none=>rfl
 |some q=>
  show(gtD (K21.sdD p) (K21.sdD q)).bind D.asB=_;rw[Lv];rfl
def  yS (f:Fn):Prop:=∀ (U:List Pq) (b:Os),f [.lst (U.map K21.fdD),K21.bD b]=dp (fbD (U.find? λq=>K21.byd b q.1))
def Lw:yS (aC 2 4 oP):=λU b=>by
 have st:∀ (V:List Pq) (o2 o3:N2),∃o2' o3',b8 (iF (eTp 2 (aL (eNm 2) (aL (eNm 3) gJ))) (ac (ifS (orQ (ag (aa (iE false) (va 1) cN)) (ag (aa gtD (va 2) (va 1)))) (rtF (evX (tpF (x2 (va 2) (va 3))) noV (fTp (x2 (frX (va 2) noV noV) (frX (va 3) noV noV))))) nxE) nxE)) (V.map K21.fdD) [sn (.lst (U.map K21.fdD)),sn (K21.bD b),o2,o3]=match V.find? (λq=>K21.byd b q.1)with
   |some q=>!(.rt (.deep,K21.fdD q))
   |none=>!(.nx [sn (.lst _),sn _,o2',o3']):=λV=>by
  induction V with
  |nil=>exactλo2 o3=>⟨o2,o3,rfl⟩
  |cons q V ih=>
   intro o2 o3;have t:=FP (A:=va 1) (B:=va 2) (Y:=vw [sn (.lst (U.map K21.fdD)),sn (K21.bD b),sn (K21.sdD q.1),sn (wD q.2)]) rfl rfl;rw[List.find?_cons];cases hb:K21.byd b q.1 with
   |true=>
    rw[hb]at t;refine⟨o2,o3,?_⟩;refine xp ?_;exact seqF_rt ((ifS_t t).trans (q_ret (evX_lf rfl (FN q))))
   |false=>
    rw[hb]at t;let⟨o2',o3',e⟩:=ih (sn (K21.sdD q.1)) (sn (wD q.2));refine⟨o2',o3',?_⟩;rw[List.map_cons,<-e];refine qr ?_ rfl;exact q_if0 t rfl
 let⟨o2,o3,e⟩:=st U none none;refine al rfl ?_;have fr:∀o,b8 (iF (eTp 2 (aL (eNm 2) (aL (eNm 3) gJ))) (ac (ifS (orQ (ag (aa (iE false) (va 1) cN)) (ag (aa gtD (va 2) (va 1)))) (rtF (evX (tpF (x2 (va 2) (va 3))) noV (fTp (x2 (frX (va 2) noV noV) (frX (va 3) noV noV))))) nxE) nxE)) (U.map K21.fdD) [sn (.lst (U.map K21.fdD)),sn (K21.bD b),none,none]=!o->frF (jX noV (va 0)) (eTp 2 (aL (eNm 2) _)) (ac (ifS (orQ (ag (aa _ (va 1) cN)) (ag _)) (rtF (evX (tpF _) noV (fTp (x2 _ _)))) nxE) nxE) [sn (.lst _),sn _,none,none]=!o:=λo h=>frF_s rfl h;cases hf:U.find? λq=>K21.byd b q.1 with
 |some q=>rw[hf]at e;exact seqF_rt (fr _ e)
 |none=>rw[hf]at e;exact q_st (fr _ e) (q_ret (evX_lf rfl rfl))
end K16
namespace K16
open PySem PySem.Spec PyProof.Rows L2
def  ko (U:Nat->List Pq) (n:Nat):D:=.lst ((!16).map λk=>.lst ((U k).map K21.fdD))
def  lvR (lv:List (N7)):D:=.lst (lv.map aq)
def Cp (h:k<n):ixD (ko U n) (iN k)=!(.lst ((U k).map K21.fdD)):=by
 have:(!16)[k]?=!k:=by rw[List.getElem?_range h]
 exact aM this
def lf_ws (P:List (N7)):lfL (P.map wD)=true:=br λd hd=>by
 let⟨w,_,rfl⟩:=Ox.mp hd;exact tT w
abbrev sL (U:Nat->List Pq) (n:Nat) (lv:List (N7)) (P:List (N7)) (b:Os) (o4 o5 o6 o8:N2):Ev:=[sn (ko U n),sn (lvR lv),dp (wsD P),dp (K21.bD b),o4,o5,o6,none,o8]
abbrev BL (be:Fn):Cl:=ac (ao 8 (evC be (x2 (aa ixD (va 0) (va 6)) (va 3)))) (ac (ifS (ag (aa (iE false) (va 8) cN)) (rtF (evV cN)) nxE) (ac (nw 2 (va 6) (evV (aa ixD (va 8) (cI 1))) (aa ixD (va 8) (cI 1))) (ac (ifS (orQ (ag (aa (iE false) (va 5) cN)) (ag (aa gtD (aa ixD (va 8) (cI 0)) (va 5)))) (ac (ao 5 (evV (aa ixD (va 8) (cI 0)))) nxE) nxE) nxE)))
def mw:∀ {L:N7} {l:Os} {P:List (N7)} {s:Os×List (N7)},lv1 U b L l P=!s->s.2.length=P.length
 |[],l,P,s,h=>by cases h;rfl
 |a::L,l,P,s,h=>by
  let⟨q,_,h⟩:=Option.bind_eq_some_iff.mp h;rw[mw h,List.length_set]
def xq:∀ {lv:List (N7)} {b:Os} {P P':List (N7)},run U lv b P=!P'->P'.length=P.length
 |[],b,P,P',h=>by cases h;rfl
 |L::lv,b,P,P',h=>by
  let⟨s,h1,h2⟩:=Option.bind_eq_some_iff.mp h;rw[xq h2,mw h1]
def Cq {be:Fn} (hbe:yS be) {U:Nat->List Pq} {n:Nat} {lv:List (N7)} {b:Os} {o4:N2}:∀ (L:N7) (l:Os) (P:List (N7)) (o6 o8:N2),(∀a∈L,a<n)->P.length=n->
  ∃o6' o8',b8 (iF (eNm 6) (BL be)) (L.map λ(k:Nat)=>D.int (k:Int)) (sL U n lv P b o4 (dp (K21.bD l)) o6 o8)=match lv1 U b L l P with
   |some s=>!(.nx (sL U n lv s.2 b o4 (dp (K21.bD s.1)) o6' o8'))
   |none=>!(.rt (.deep,.non))
 |[],l,P,o6,o8,_,_=>⟨o6,o8,rfl⟩
 |a::L,l,P,o6,o8,hL,hP=>by
  have ha:=hL a Oo;have eb:=hbe (U a) b;have io:=Cp (U:=U) ha;have e8:∀o8,evC be (x2 (aa ixD (va 0) (va 6)) (va 3)) (sL U n lv P b o4 (dp (K21.bD l)) (sn (iN a)) o8)=!((.deep,fbD (lJ U b a)),sL U n lv P b o4 (dp (K21.bD l)) (sn (iN a)) o8):=λo8=>by
   refine evX_lf (clF_a.trans ?_) (FO _);simp only[sB,io,eb];rfl
  rw[List.map_cons];cases hq:lJ U b a with
  |none=>
   refine⟨o6,o8,?_⟩;rw[show lv1 U b (a::L) l P=none by unfold lv1;rw[hq];rfl];refine xp (s:=(.deep,.non)) ?_;show ac _ _ (sL U n lv P b o4 (dp (K21.bD l)) (sn (iN a)) o8)=_;refine q_set (e8 o8) ?_;rw[hq];exact seqF_rt ((ifS_t rfl).trans rfl)
  |some q=>
   have i0:ixD (K21.fdD q) (.int 0)=!(K21.sdD q.1):=ly _ _;have i1:ixD (K21.fdD q) (.int 1)=!(wD q.2):=pW _ _ _;let⟨o6',o8',ih⟩:=Cq hbe (lv:=lv) (o4:=o4) L (mx l q.1) (P.set a q.2) (sn (iN a)) (dp (K21.fdD q)) (λx hx=>hL x (Op _ hx)) (by rw[List.length_set];exact hP);refine⟨o6',o8',?_⟩;rw[show lv1 U b (a::L) l P=lv1 U b L (mx l q.1) (P.set a q.2)by rw[lv1,hq];rfl,<-ih];refine qr ?_ rfl;show ac _ _ (sL U n lv P b o4 (dp (K21.bD l)) (sn (iN a)) o8)=_;refine q_set (e8 o8) ?_;rw[hq];refine q_if0 rfl (q_st (ke (ds:=P.map wD) (d:=wD q.2) (k:=(a:Int)) (evX_lf ?_ (tT _)) rfl rfl (!1) (by rw[length_map];omega)) ?_)
   .show aa ixD (va 8) (cI 1) [_,_,_,_,_,_,_,_,!(K21.fdD q)]=_;simp only[sB,i1]
   have em:D.lst ((P.map wD).set (a:Int).toNat (wD q.2))=wsD (P.set a q.2):=by
    unfold wsD;rw[Int.toNat_natCast,List.map_set]
   rw[em];have t:=FP (A:=va 5) (B:=aa ixD (va 8) (cI 0)) (Y:=vw (sL U n lv (P.set a q.2) b o4 (dp (K21.bD l)) (sn (iN a)) (dp (K21.fdD q)))) (b:=l) (p:=q.1) rfl (by simp only[sB,i0]);refine Ny (b:=K21.byd l q.1) (Y':=sL U n lv (P.set a q.2) b o4 (dp (K21.bD (mx l q.1))) (sn (iN a)) (dp (K21.fdD q))) t ?_ rfl;unfold mx;cases hb:K21.byd l q.1 with
   |true=>exact q_set (evX_lf (d:=K21.sdD q.1) (by simp only[sB];exact i0) rfl) rfl
   |false=>rfl
def  rnD:Option (List (N7))->D
 |none=>.non
 |some P=>wsD P
def  IH (f:Fn):Prop:=∀ (U:Nat->List Pq) (n:Nat) (lv:List (N7)),n<=24->(∀L∈lv,∀a∈L,a<n)->f [ko U n,lvR lv]=dp (rnD (run U lv none (List.replicate n [])))
abbrev BO (be:Fn):Cl:=ac (ao 5 (evV (va 3))) (ac (frF (jX noV (va 4)) (eNm 6) (BL be)) (ac (ao 3 (evV (va 5))) nxE))
def xt {be:Fn} (hbe:yS be) {U:Nat->List Pq} {n:Nat} {lv:List (N7)}:∀ (lw:List (N7)) (b:Os) (P:List (N7)) (o4 o5 o6 o8:N2),(∀L∈lw,∀a∈L,a<n)->P.length=n->
  ∃b' o4' o5' o6' o8',b8 (iF (eNm 4) (BO be)) (lw.map aq) (sL U n lv P b o4 o5 o6 o8)=match run U lw b P with
   |some P'=>!(.nx (sL U n lv P' b' o4' o5' o6' o8'))
   |none=>!(.rt (.deep,.non))
 |[],b,P,o4,o5,o6,o8,_,_=>⟨b,o4,o5,o6,o8,rfl⟩
 |L::lw,b,P,o4,o5,o6,o8,hL,hP=>by
  let⟨o6',o8',e⟩:=Cq hbe (U:=U) (lv:=lv) (b:=b) (o4:=sn (aq L)) L b P o6 o8 (hL L Oo) hP;rw[List.map_cons];have s5:evV (va 3) (sL U n lv P b (sn (aq L)) o5 o6 o8)=!((.deep,K21.bD b),sL U n lv P b (sn (aq L)) o5 o6 o8):=evX_lf rfl (by cases b<;>rfl);cases hs:lv1 U b L b P with
  |none=>
   rw[hs]at e;refine⟨b,o4,o5,o6,o8,?_⟩;rw[show run U (L::lw) b P=none by unfold run;rw[hs];rfl];refine xp (s:=(.deep,.non)) ?_;show ac _ _ (sL U n lv P b (sn (aq L)) o5 o6 o8)=_;exact q_set s5 (seqF_rt (frF_s rfl e))
  |some s=>
   rw[hs]at e;let⟨b2,p4,p5,p6,p8,ih⟩:=xt hbe (lv:=lv) lw s.1 s.2 (sn (aq L)) (dp (K21.bD s.1)) o6' o8' (λx hx=>hL x (Op _ hx)) (by rw[mw hs];exact hP);refine⟨b2,p4,p5,p6,p8,?_⟩;rw[show run U (L::lw) b P=run U lw s.1 s.2 by rw[run,hs];rfl,<-ih];refine qr ?_ rfl;show ac _ _ (sL U n lv P b (sn (aq L)) o5 o6 o8)=_;exact q_set s5 (q_st (frF_s rfl e) (q_set (s:=(.deep,K21.bD s.1)) (evX_lf rfl (by cases s.1<;>rfl)) rfl))
def Lx (hbe:yS be):IH (aC 2 9 (rS be)):=λU n lv hn hL=>by
 refine al rfl ?_;have hc:ah [7] (jX noV (va 0)) (gNm 7) tQ (tpF af) [!(ko U n),!(lvR lv),none,none,none,none,none,none,none]=!((List.replicate n []).map wD):=by
  have:(List.replicate n []).map wD=(!16).map λ_=>wD []:=by rw[List.map_const',length_range,List.map_replicate]
  rw[this];exact aw rfl (λk _=>rfl) (by rw[length_range];exact lt_big (!1))
 let⟨b',o4,o5,o6,o8,e⟩:=xt hbe lv none (List.replicate n []) none none none none hL (List.length_replicate ..);refine q_set (evX_lfs ((lsF_a ..).trans (congrArg _ hc)) rfl hc (lf_ws _)) (q_set (evX_lf rfl rfl) ?_);cases hr:run U lv none (List.replicate n [])with
 |none=>rw[hr]at e;exact seqF_rt (frF_s rfl e)
 |some P=>rw[hr]at e;exact q_st (frF_s rfl e) rfl
end K16
namespace K16
open PySem PySem.Spec PyProof.Rows L2
def  iV (fl:Str->Str->Bool):Cl:=(rtF (evX (lsF (ah [1] (jX noV (flF fl "level_letters" (va 0))) (gNm 1) tQ (liF (x1 (va 1))))) (ah [1] (jX noV (flF fl "level_letters" (va 0))) (gNm 1) tQ (liF (x1 (va 1)))) (fCo [1] (jX noV (flF fl "level_letters" (va 0))) (gNm 1) tQ (frX (liF (x1 (va 1))) (l1F (x1 (va 1))) (fNo (x1 (va 1)))))))
def  jO (mt_levels:MT) (kk:Nat) (b7 aU aH:Fn):Cl:=(ac (lj (clF aH (x2 (va 0) (va 1)))) (ac (ao 3 (evX (lsF (ah [8] (jX noV (va 1)) (gNm 8) tQ (tpF af))) (ah [8] (jX noV (va 1)) (gNm 8) tQ (tpF af)) (fCo [8] (jX noV (va 1)) (gNm 8) tQ (frX (tpF af) noV (fTp af))))) (ac (ao 4 (evV cN)) (ac (ao 5 evE) (ac (frF (jX noV (meF (va 2) af mt_levels kk "levels")) (eNm 6) (ac (ao 7 (evX (lsF (ah [8] (jX noV (va 6)) (gNm 8) tQ (clF aU (x4 (va 0) (va 1) (va 8) (va 4))))) (ah [8] (jX noV (va 6)) (gNm 8) tQ (clF aU (x4 (va 0) (va 1) (va 8) (va 4)))) (fCo [8] (jX noV (va 6)) (gNm 8) tQ (frX (clF aU (x4 (va 0) (va 1) (va 8) (va 4))) noV (fCl aU (x4 (va 0) (va 1) (va 8) (va 4))))))) (ac (ifS (ag (aa inE cN (va 7))) (rtF (evX (tpF (x2 (cS "chain") (aa aE (va 5) (lsF (dpF (x1 (aa ixD (va 6) (oM (va 7) cN)))))))) noV (fTp (x2 (frX (cS "chain") noV noV) (frX (aa aE (va 5) (lsF (dpF (x1 (aa ixD (va 6) (oM (va 7) cN)))))) (mY (va 5) (lsF (dpF (x1 (aa ixD (va 6) (oM (va 7) cN)))))) noV))))) nxE) (ac (frW 6 7 (jX (zpF (x2 (va 6) (va 7))) (biF noD (x2 (va 6) (va 7)))) (eTp 2 (aL (eNm 8) (aL (eNm 9) gJ))) (ac (nw 3 (va 8) (evC b7 (x3 (va 0) (aa ixD (aa ixD (va 1) (va 8)) (cI 1)) (aa ixD (va 9) (cI 0)))) (clF b7 (x3 (va 0) (aa ixD (aa ixD (va 1) (va 8)) (cI 1)) (aa ixD (va 9) (cI 0))))) nxE)) (ac (ao 4 (evX (biF lu (x1 (va 7))) noV (fNo (x1 (va 7))))) (ac (i9 5 (evV (aa ixD (va 6) (oM (va 7) (va 4))))) nxE)))))) (ac (orO (rtP "plan" 3) (bW (evX (tpF (x2 (cS "plan") (va 3))) noV (fTp (x2 (frX (cS "plan") noV noV) (frX (va 3) noV noV)))))) nxE))))))
def xu:∀ps:List K21.Sd,sZ (ps.map K21.sdD)=!(ps.map λp=>[p.1,p.2])
 |[]=>rfl
 |p::ps=>by
  show((Hv (K21.sdD p)).bind λns=>(sZ (ps.map K21.sdD)).bind λr=>!(ns::r))=_;rw[xu ps];rfl
def Cr (ps:List K21.Sd):∀k,k<ps.length->(ps.take (k+1)).foldl mx none=ps[argBest (mxB (ps.map λp=>[p.1,p.2])) k]?/\argBest (mxB (ps.map λp=>[p.1,p.2])) k<ps.length
 |0,h=>by
  cases ps with
  |nil=>cases h
  |cons p ps=>exact⟨rfl,h⟩
 |k+1,h=>by
  let⟨ih,hl⟩:=Cr ps k (!1);have gd:∀i (hi:i<ps.length),(ps.map λp=>[p.1,p.2]).getD i []=[ps[i].1,ps[i].2]:=λi hi=>by
   rw[List.getD_eq_getElem?_getD,getElem?_map,getElem?_eq_getElem hi];rfl
  rw[List.take_add_one,getElem?_eq_getElem h,List.foldl_append,ih,getElem?_eq_getElem hl];show mx (!_) _=_/\_;have e:argBest (mxB (ps.map λp=>[p.1,p.2])) (k+1)=if mxB (ps.map λp=>[p.1,p.2]) (k+1) (argBest (mxB (ps.map λp=>[p.1,p.2])) k)then k+1 else argBest (mxB (ps.map λp=>[p.1,p.2])) k:=rfl;have e2:mxB (ps.map λp=>[p.1,p.2]) (k+1) (argBest (mxB (ps.map λp=>[p.1,p.2])) k)=K21.byd (some ps[argBest (mxB (ps.map λp=>[p.1,p.2])) k]) ps[k+1]:=by
   show HT.lexLt ((ps.map λp=>[p.1,p.2]).getD (argBest (mxB (ps.map λp=>[p.1,p.2])) k) []) ((ps.map λp=>[p.1,p.2]).getD (k+1) [])=_;rw[gd _ hl,gd _ h];rfl
  rw[e,e2];unfold mx;split
  .exact⟨(getElem?_eq_getElem h).symm,h⟩
  .exact⟨(getElem?_eq_getElem hl).symm,hl⟩
def II (h:ps≠[]):∃m,ps.foldl mx none=!m/\lu [.lst (ps.map K21.sdD)]=!(K21.sdD m)/\m∈ps:=by
 have hl:=List.length_pos_iff.mpr h;let⟨e,hi⟩:=Cr ps (ps.length-1) (!1);rw[show ps.length-1+1=ps.length by omega,List.take_length,getElem?_eq_getElem hi]at e;refine⟨_,e,?_,List.getElem_mem hi⟩;unfold lu;dsimp only;rw[xu,Option.bind_some,if_neg (by cases ps with
  |nil=>exact absurd rfl h
  |cons _ _=>exact Bool.false_ne_true),length_map,getElem?_map,getElem?_eq_getElem hi]
 rfl
def ER {b:Os}:∀ {ps:List K21.Sd},(∀p∈ps,K21.byd b p=true)->ps≠[]->ps.foldl mx b=ps.foldl mx none
 |[],_,h=>absurd rfl h
 |p::ps,hb,_=>by
  show ps.foldl mx (mx b p)=ps.foldl mx (mx none p);unfold mx;rw[if_pos (hb p mem_cons_self)];rfl
def vT:∀os:List Os,okL (os.map K21.bD)=true/\aQ (os.map K21.bD)<=1
 |[]=>⟨rfl,Nat.zero_le _⟩
 |o::os=>by
  let⟨a,b⟩:=vT os;cases o with
  |none=>exact⟨a,by show max 0 (aQ (os.map K21.bD))<=1;omega⟩
  |some p=>exact⟨by show(true&&okL (os.map K21.bD))=true;rw[a];rfl,by show max (max 0 (max 0 0)+1) (aQ (os.map K21.bD))<=1;omega⟩
def Ly (os:List Os):inE .non (.lst (os.map K21.bD))=!(.bl (os.any Option.isNone)):=by
 let⟨a,b⟩:=vT os;show(if(okE .non&&okL (os.map K21.bD)&&decide (aQ (os.map K21.bD)<=50))=true then !(D.bl ((os.map K21.bD).any λc=>eqD c .non))else none)=_;rw[a,decide_eq_true (!1),if_pos (by rfl),List.any_map];congr 3;funext o;cases o<;>rfl
def Cs {os:List Os} (h:o∈os):∃j,yt (os.map K21.bD) (K21.bD o)=!j/\os[j]?=!o:=by
 let⟨a,b⟩:=vT os;have ok:okE (K21.bD o)=true:=by cases o<;>rfl
 have eq:∀o',eqD (K21.bD o') (K21.bD o)=decide (o'=o):=λo'=>by
  cases o' with
  |none=>cases o<;>rfl
  |some p=>
   cases o with
   |none=>rfl
   |some q=>
    show((p.1==q.1)&&((p.2==q.2)&&true))=decide (some p=!q);rw[Bool.eq_iff_iff];simp[Prod.ext_iff]
 unfold yt;rw[ok,a,decide_eq_true (!1),if_pos (by rfl),List.findIdx?_map];cases hj:os.findIdx? ((λc=>eqD c (K21.bD o))∘K21.bD)with
 |none=>
  have:=List.findIdx?_eq_none_iff.mp hj o h;simp[eq]at this
 |some j=>
  let⟨hl,h1,_⟩:=List.findIdx?_eq_some_iff_getElem.mp hj;have h1:eqD (K21.bD os[j]) (K21.bD o)=true:=h1;rw[eq]at h1;exact⟨j,rfl,by rw[getElem?_eq_getElem hl,of_decide_eq_true h1]⟩
def  po (U:Nat->List Pq) (b:Os) (a:Nat):Os:=(lJ U b a).map (·.1)
def lv1_no:∀ {L:N7} {l:Os} {P:List (N7)},lv1 U b L l P=none↔((L.map (po U b)).any Option.isNone)=true
 |[],l,P=>by simp[lv1]
 |a::L,l,P=>by
  rw[List.map_cons,List.any_cons,lv1];unfold po;cases hq:lJ U b a with
  |none=>simp
  |some q=>simpa [po] using lv1_no (L:=L)
def xv:∀ {L:N7} {l:Os} {P:List (N7)} {s:Os×List (N7)},lv1 U b L l P=!s->∃qs:List Pq,L.map (lJ U b)=qs.map some/\s.1=(qs.map (·.1)).foldl mx l/\s.2=(L.zip qs).foldl (λP x=>P.set x.1 x.2.2) P
 |[],l,P,s,h=>by cases h;exact⟨[],rfl,rfl,rfl⟩
 |a::L,l,P,s,h=>by
  rw[lv1]at h;let⟨q,hq,h⟩:=Option.bind_eq_some_iff.mp h;let⟨qs,e1,e2,e3⟩:=xv h;exact⟨q::qs,by rw[List.map_cons,hq,e1];rfl,e2,e3⟩
end K16
namespace K16
open PySem PySem.Spec PyProof.Rows L2
def evX_sp {R L Sp} (h:R (vw Y)=none) (hl:L (vw Y)=none) (hs:Sp (vw Y)=!e):evX R L Sp Y=!((.deep,e),Y):=by
 have:frX R L Sp (vw Y)=!e:=by unfold frX orO;simp only[h,hl,lfO,fJ,Option.bind_none,hs]
 unfold evX orO i8;rw[this];rfl
def IJ {R L Sp} (h:R Y=none) (hl:L Y=!ds) (lf:lfL ds=true):frX R L Sp Y=!(.lst ds):=by
 unfold frX orO;simp only[h,hl,lfO,fJ,Option.bind_none,Option.bind_some,lf,if_true]
def Ct {fo fk:Fv} {os:List Os} {o:Os} (h1:fo Y=!(.lst (os.map K21.bD))) (h2:fk Y=!(K21.bD o)) (h3:yt (os.map K21.bD) (K21.bD o)=!j):oM fo fk Y=!(iN j):=by
 unfold oM;rw[h1,Option.bind_some];show((fk Y).bind λy=>(yt (os.map K21.bD) y).bind λj=>!(D.int (j:Int)))=_;grind
def LA (os:List Os):lfL (os.map K21.bD)=true:=br λd hd=>by
 let⟨o,_,rfl⟩:=Ox.mp hd;cases o<;>rfl
abbrev sP (ps:N0) (ls:List K21.Lz) (wd:D) (P:List (N7)) (b:Os) (ch:N7) (o6 o7 o8 o9:N2):Ev:=[sn (au ps),sn (K21.lzsD ls),sn wd,dp (wsD P),dp (K21.bD b),dp (aq ch),o6,o7,o8,o9]
abbrev X3:Fx:=x3 (va 0) (aa ixD (aa ixD (va 1) (va 8)) (cI 1)) (aa ixD (va 9) (cI 0))
abbrev BZ (cw:Fn):Cl:=ac (nw 3 (va 8) (evC cw X3) (clF cw X3)) nxE
structure Opn (nx cw:Fn) (ps:N0) (ls:List K21.Lz) (U:Nat->List Pq):Prop where
 n:ls.length<=24
 nx:∀a,a<ls.length->∀b:Os,valO (nx [au ps,K21.lzsD ls,iN a,K21.bD b])=!(K21.bD (po U b a))
 cw:∀a l,ls[a]?=!l->∀q∈U a,cw [au ps,iN l.2,.int q.1.1]=dp (wD q.2)
section
variable {nx cw:Fn} {ps:N0} {ls:List K21.Lz} {wd:D} {U:Nat->List Pq}
def FQ (W:Opn nx cw ps ls U):∀ (zs:List (Nat×Pq)) (P:List (N7)) (o8 o9:N2),(∀z∈zs,z.1<ls.length/\z.2∈U z.1)->P.length=ls.length->
  ∃o8' o9',b8 (iF (eTp 2 (aL (eNm 8) (aL (eNm 9) gJ))) (BZ cw)) (zs.map λz=>.tup [iN z.1,K21.sdD z.2.1]) (sP ps ls wd P b ch o6 o7 o8 o9)=!(.nx (sP ps ls wd (zs.foldl (λP x=>P.set x.1 x.2.2) P) b ch o6 o7 o8' o9'))
 |[],P,o8,o9,_,_=>⟨o8,o9,rfl⟩
 |z::zs,P,o8,o9,hz,hP=>by
  let⟨h1,h2⟩:=hz z Oo;have hl:ls[z.1]?=some ls[z.1]:=getElem?_eq_getElem h1;have ec:=W.cw z.1 _ hl z.2 h2;have a1:ixD (K21.lzsD ls) (iN z.1)=!(K21.lzD ls[z.1]):=aM (mk:=K21.lzD) hl;have a2:ixD (K21.lzD ls[z.1]) (.int 1)=!(iN ls[z.1].2):=pW _ _ _;have a3:ixD (K21.sdD z.2.1) (.int 0)=!(.int z.2.1.1):=ly _ _;let⟨o8',o9',ih⟩:=FQ W (b:=b) (ch:=ch) (o6:=o6) (o7:=o7) zs (P.set z.1 z.2.2) (sn (iN z.1)) (sn (K21.sdD z.2.1)) (λy hy=>hz y (Op _ hy)) (by rw[List.length_set];exact hP);refine⟨o8',o9',?_⟩;rw[List.map_cons,List.foldl_cons,<-ih];refine qr ?_ rfl;show ac _ _ (sP ps ls wd P b ch o6 o7 (sn (iN z.1)) (sn (K21.sdD z.2.1)))=_;refine q_st (ke (ds:=P.map wD) (d:=wD z.2.2) (k:=(z.1:Int)) (evX_lf (clF_a.trans ?_) (tT _)) rfl rfl (!1) (by rw[length_map];omega)) ?_
  .simp only[sB,a1,a2,a3,ec]
  .show some (Out.nx [_,_,_,dp (.lst ((P.map wD).set (z.1:Int).toNat (wD z.2.2))),_,_,_,_,_,_])=!(Out.nx [_,_,_,dp (.lst ((P.set z.1 z.2.2).map wD)),_,_,_,_,_,_]);rw[Int.toNat_natCast,List.map_set]
abbrev C7 (nx:Fn):Fx:=ah [8] (jX noV (va 6)) (gNm 8) tQ (clF nx (x4 (va 0) (va 1) (va 8) (va 4)))
abbrev A5:Fx:=x1 (aa ixD (va 6) (oM (va 7) cN))
abbrev BP (nx cw:Fn):Cl:=ac (ao 7 (evX (lsF (C7 nx)) (C7 nx) (fCo [8] (jX noV (va 6)) (gNm 8) tQ (frX (clF nx (x4 (va 0) (va 1) (va 8) (va 4))) noV (fCl nx (x4 (va 0) (va 1) (va 8) (va 4))))))) (ac (ifS (ag (aa inE cN (va 7))) (rtF (evX (tpF (x2 (cS "chain") (aa aE (va 5) (lsF (dpF A5))))) noV (fTp (x2 (frX (cS "chain") noV noV) (frX (aa aE (va 5) (lsF (dpF A5))) (mY (va 5) (lsF (dpF A5))) noV))))) nxE) (ac (frW 6 7 (jX (zpF (x2 (va 6) (va 7))) (biF noD (x2 (va 6) (va 7)))) (eTp 2 (aL (eNm 8) (aL (eNm 9) gJ))) (BZ cw)) (ac (ao 4 (evX (biF lu (x1 (va 7))) noV (fNo (x1 (va 7))))) (ac (i9 5 (evV (aa ixD (va 6) (oM (va 7) (va 4))))) nxE))))
abbrev sQ (ps:N0) (ls:List K21.Lz) (wd:D) (U:Nat->List Pq) (P:List (N7)) (b:Os) (ch L:N7) (o8 o9:N2):Ev:=sP ps ls wd P b ch (sn (aq L)) (dp (.lst ((L.map (po U b)).map K21.bD))) o8 o9
def frW_run (h0:J (shv Y)=none) (hJ:J (shv (frzS [i,j] Y))=!ds) (h:b8 (iF tg F) ds (frzS [i,j] Y)=!o):frW i j J tg F Y=!o:=by
 unfold frW orO;have e:c6 J tg F (frzS [i,j] Y)=!o:=by unfold c6;rw[hJ];exact h
 rw[show c6 J tg F Y=none by unfold c6;rw[h0];rfl];dsimp only;rw[e]
def lp_step (W:Opn nx cw ps ls U) {L:N7} (hne:L≠[]) (hL:∀a∈L,a<ls.length) {b:Os} {P:List (N7)} {ch:N7} (hP:P.length=ls.length) (hch:ch.length<=24) (hl:L.length<=24) (o7 o8 o9:N2):
  (lv1 U b L b P=none/\∃a∈L,po U b a=none/\BP nx cw (sP ps ls wd P b ch (sn (aq L)) o7 o8 o9)=!(.rt (.deep,.tup [.str "chain",aq (ch++[a])])))\/
  (∃s a m o7' o8' o9',lv1 U b L b P=!s/\s.1=!m/\a∈L/\po U b a=!m/\BP nx cw (sP ps ls wd P b ch (sn (aq L)) o7 o8 o9)=!(.nx (sP ps ls wd s.2 (!m) (ch++[a]) (sn (aq L)) o7' o8' o9'))):=by
 have hC:∀o7 o8 o9,C7 nx (vw (sP ps ls wd P b ch (sn (aq L)) o7 o8 o9))=!((L.map (po U b)).map K21.bD):=λo7 o8 o9=>by
  rw[List.map_map];refine aw (xs:=L) (mk:=λ(k:Nat)=>D.int (k:Int)) (out:=K21.bD∘po U b) rfl (λa ha=>?_) (lt_big (!1));have e:=W.nx a (hL a ha) b;simp only[sB,stepF_a,wipe_cons,wipe_nil,gNm_a,tQ_a,if_true,e];rfl
 have e7:evX (lsF (C7 nx)) (C7 nx) (fCo [8] (jX noV (va 6)) (gNm 8) tQ (frX (clF nx (x4 (va 0) (va 1) (va 8) (va 4))) noV (fCl nx (x4 (va 0) (va 1) (va 8) (va 4))))) (sP ps ls wd P b ch (sn (aq L)) o7 o8 o9)=!((.deep,.lst ((L.map (po U b)).map K21.bD)),sP ps ls wd P b ch (sn (aq L)) o7 o8 o9):=evX_lfs (d:=.lst ((L.map (po U b)).map K21.bD)) ((lsF_a ..).trans (congrArg (Option.map D.lst) (hC o7 o8 o9))) rfl (hC o7 o8 o9) (LA _)
 have hT:ag (aa inE cN (va 7)) (vw (sQ ps ls wd U P b ch L o8 o9))=!((L.map (po U b)).any Option.isNone):=by
  rw[testB_a,bin2_a];show(inE .non (.lst ((L.map (po U b)).map K21.bD))).bind D.asB=_;rw[Ly];rfl
 have at_:∀j o,(L.map (po U b))[j]?=!o->∃a,L[j]?=!a/\po U b a=o:=λj o h=>by
  rw[getElem?_map]at h;exact Option.map_eq_some_iff.mp h
 cases hs:lv1 U b L b P with
 |none=>
  have hn:=lv1_no.mp hs;rw[hn]at hT;let⟨o,ho,hi⟩:=List.any_eq_true.mp hn;obtain rfl:o=none:=Option.isNone_iff_eq_none.mp hi;let⟨j,hj,hj2⟩:=Cs ho;let⟨a,ha,ea⟩:=at_ j none hj2;have i6:ixD (aq L) (iN j)=!(iN a):=aM (mk:=λ(k:Nat)=>D.int (k:Int)) ha;have eA:A5 (vw (sQ ps ls wd U P b ch L o8 o9))=![iN a]:=by
   have:=Ct (fo:=va 7) (fk:=cN) (Y:=vw (sQ ps ls wd U P b ch L o8 o9)) (o:=none) rfl rfl hj;simp only[je,consX_a,bin2_a,this];show((ixD (aq L) (iN j)).bind λd=>![d])=_;rw[i6];rfl
  have eD:lsF (dpF A5) (vw (sQ ps ls wd U P b ch L o8 o9))=!(.lst [iN a]):=by
   rw[lsF_a,dpF_a,eA,capL_1];rfl
  have eR:aa aE (va 5) (lsF (dpF A5)) (vw (sQ ps ls wd U P b ch L o8 o9))=none:=by
   rw[bin2_a,eD];rfl
  have eC:mY (va 5) (lsF (dpF A5)) (vw (sQ ps ls wd U P b ch L o8 o9))=!((ch++[a]).map λ(k:Nat)=>D.int (k:Int)):=by
   rw[List.map_append];exact Ls (a:=ch.map λ(k:Nat)=>D.int (k:Int)) (b:=[iN a]) rfl eD (by rw[length_append,length_map];exact lt_big (by show ch.length+1<=100;omega))
  refine .inl ⟨rfl,a,OE ha,ea,q_set e7 (seqF_rt ((ifS_t hT).trans (q_ret (evX_sp ?_ rfl ?_))))⟩
  .rw[jC,nJ,consX_a,je,consX_a];exact congrArg (λo:Oe=>(bx ((cS "chain" (vw (sQ ps ls wd U P b ch L o8 o9))).bind λd=>(o.bind λd=>![d]).bind λr=>!(d::r))).bind λds=>!(D.tup ds)) eR
  .have f2:=IJ (Sp:=noV) eR eC (BU _);rw[Bj,nJ,consX_a,je,consX_a];exact congrArg (λo:Oe=>(bx ((frX (cS "chain") noV noV (vw (sQ ps ls wd U P b ch L o8 o9))).bind λd=>(o.bind λd=>![d]).bind λr=>!(d::r))).bind λds=>!(D.tup ds)) f2
 |some s=>
  let⟨qs,q1,q2,q3⟩:=xv hs;have hf:(L.map (po U b)).any Option.isNone=false:=Bool.eq_false_iff.mpr λz=>by rw[lv1_no.mpr z]at hs;cases hs
  rw[hf]at hT;have eos:L.map (po U b)=(qs.map (·.1)).map some:=by
   have:=congrArg (List.map (Option.map (·.1))) q1;rw[List.map_map,List.map_map]at this;rw[List.map_map];exact this
  have hlen:qs.length=L.length:=by have:=congrArg List.length q1;rw[length_map,length_map]at this;exact this.symm
  have pk:∀z∈L.zip qs,lJ U b z.1=!z.2:=λz hz=>by
   let⟨i,hi⟩:=List.mem_iff_getElem?.mp hz;let⟨h1,h2⟩:=List.getElem?_zip_eq_some.mp hi;have:=congrArg (·[i]?) q1;simp only[getElem?_map,h1,h2,map_some]at this;exact Option.some.inj this
  have hz:∀z∈L.zip qs,z.1<ls.length/\z.2∈U z.1:=λz hz=>⟨hL _ (List.of_mem_zip hz).1,List.mem_of_find?_eq_some (pk z hz)⟩;have hby:∀p∈qs.map (·.1),K21.byd b p=true:=λp hp=>by
   let⟨q,hq,rfl⟩:=Ox.mp hp;have:some q∈L.map (lJ U b):=by rw[q1];exact List.mem_map_of_mem hq
   let⟨a,_,ha⟩:=Ox.mp this;exact List.find?_some (p:=λq:Pq=>K21.byd b q.1) ha
  have hps:qs.map (·.1)≠[]:=λz=>by
   have:=congrArg List.length z;rw[length_map,hlen]at this;exact hne (List.eq_nil_of_length_eq_zero this)
  let⟨m,m1,m2,m3⟩:=II hps;have hm:s.1=!m:=by rw[q2,ER hby hps,m1]
  let⟨j,hj,hj2⟩:=Cs (os:=L.map (po U b)) (o:=!m) (by rw[eos];exact List.mem_map_of_mem m3);let⟨a,ha,ea⟩:=at_ j (!m) hj2;have i6:ixD (aq L) (iN j)=!(iN a):=aM (mk:=λ(k:Nat)=>D.int (k:Int)) ha;let⟨o8',o9',ez⟩:=FQ (wd:=wd) W (b:=b) (ch:=ch) (o6:=sn (aq L)) (o7:=sn (.lst ((L.map (po U b)).map K21.bD))) (L.zip qs) P o8 o9 hz hP;rw[<-q3]at ez;have bd:(L.map (po U b)).map K21.bD=(qs.map (·.1)).map K21.sdD:=by rw[eos,List.map_map];rfl
  refine .inr ⟨s,a,m,sn (.lst ((L.map (po U b)).map K21.bD)),o8',o9',rfl,hm,OE ha,ea,q_set e7 (q_if0 hT (q_st (frW_run rfl ?_ ez) (q_set (s:=(.deep,K21.sdD m)) (Y':=sP ps ls wd s.2 b ch (sn (aq L)) (sn (.lst ((L.map (po U b)).map K21.bD))) o8' o9') (evX_lf (biF_a.trans ?_) rfl) (q_st (fT (ds:=ch.map λ(k:Nat)=>D.int (k:Int)) (ds0:=ch.map λ(k:Nat)=>D.int (k:Int)) (c0:=.deep) (d:=iN a) rfl (evX_lf ?_ rfl) rfl (by rw[length_map];exact lt_big (!1))) ?_))))⟩
  .refine KO ?_;show uM [aq L,.lst ((L.map (po U b)).map K21.bD)]=_;rw[bd,Bt (xs:=L.map λ(k:Nat)=>D.int (k:Int)) (ys:=(qs.map (·.1)).map K21.sdD) rfl rfl,vB,List.zip_map_right,List.map_map];rfl
  .show lu [.lst ((L.map (po U b)).map K21.bD)]=_;rw[bd];exact m2
  .rw[bin2_a,Ct (fo:=va 7) (fk:=va 4) (o:=!m) rfl rfl hj];exact i6
  .show some (Out.nx [_,_,_,_,_,dp (.lst ((ch.map λ(k:Nat)=>D.int (k:Int))++[iN a])),_,_,_,_])=!(Out.nx [_,_,_,_,_,dp (.lst ((ch++[a]).map λ(k:Nat)=>D.int (k:Int))),_,_,_,_]);rw[List.map_append];rfl
end
end K16
namespace K16
open PySem PySem.Spec PyProof.Rows L2
def  fs (U:Nat->List Pq) (a:Nat):List K21.Sd:=(U a).map (·.1)
def Cu (U:Nat->List Pq) (b:Os) (a:Nat):(fs U a).find? (K21.byd b)=po U b a:=by
 unfold fs po lJ;rw[List.find?_map];rfl
structure Lvn (n:Nat) (lv:List (N7)) (lvl:Nat->Nat):Prop where
 le:lv.length<=24
 at_:∀i L,lv[i]?=!L->L≠[]/\L.length<=24/\∀a∈L,a<n/\lvl a=i
section
variable {nx cw:Fn} {ps:N0} {ls:List K21.Lz} {wd:D} {U:Nat->List Pq}
def  Chn (n:Nat) (U:Nat->List Pq) (lvl:Nat->Nat) (ch:N7):Prop:=(∀a∈ch,a<n)/\ch.length<=24/\due (fs U) lvl none (-1) ch=true
def lp_out (W:Opn nx cw ps ls U) (V:Lvn ls.length lv lvl):∀ (lw:List (N7)) (i:Nat),lv.drop i=lw->∀ (b:Os) (P:List (N7)) (ch:N7) (o6 o7 o8 o9:N2),P.length=ls.length->ch.length=i->(∀a∈ch,a<ls.length)->(∀tl,due (fs U) lvl none (-1) (ch++tl)=due (fs U) lvl b ((i:Int)-1) tl)->
  (∃P' b' ch' o6' o7' o8' o9',run U lw b P=!P'/\b8 (iF (eNm 6) (BP nx cw)) (lw.map aq) (sP ps ls wd P b ch o6 o7 o8 o9)=!(.nx (sP ps ls wd P' b' ch' o6' o7' o8' o9')))\/
  (run U lw b P=none/\∃ch',Chn ls.length U lvl ch'/\b8 (iF (eNm 6) (BP nx cw)) (lw.map aq) (sP ps ls wd P b ch o6 o7 o8 o9)=!(.rt (.deep,.tup [.str "chain",aq ch'])))
 |[],i,_,b,P,ch,o6,o7,o8,o9,_,_,_,_=>.inl ⟨P,b,ch,o6,o7,o8,o9,rfl,rfl⟩
 |L::lw,i,hd,b,P,ch,o6,o7,o8,o9,hP,hc,hcn,hdu=>by
  have hi:lv[i]?=!L:=by
   have:=congrArg (·[0]?) hd;simpa [List.getElem?_drop] using this
  have hd':lv.drop (i+1)=lw:=by rw[<-List.drop_drop,hd];rfl
  have il:i<lv.length:=(On.mp hi).1;have hle:=V.le;let⟨v1,v2,v3⟩:=V.at_ i L hi;have du:∀a∈L,∀tl,due (fs U) lvl b ((i:Int)-1) (a::tl)=match po U b a with
    |none=>tl.isEmpty
    |some x=>due (fs U) lvl (!x) (i:Int) tl:=λa ha tl=>by
   rw[due,(v3 a ha).2,if_neg (!1),Cu]
   cases po U b a<;>rfl
  rw[List.map_cons];rcases lp_step (wd:=wd) W v1 (λa ha=>(v3 a ha).1) (b:=b) (ch:=ch) hP (!1) v2 o7 o8 o9 with⟨s1,a,ha,ea,e⟩|⟨s,a,m,p7,p8,p9,s1,s2,ha,ea,e⟩
  .refine .inr ⟨by rw[run,s1];rfl,ch++[a],⟨λx hx=>?_,by rw[length_append];show ch.length+1<=24;omega,by rw[hdu,du a ha,ea];rfl⟩,xp e⟩;rcases mem_append.mp hx with z|z
   .exact hcn x z
   .rw[mem_singleton.mp z];exact(v3 a ha).1
  .have ih:=lp_out W V lw (i+1) hd' (!m) s.2 (ch++[a]) (sn (aq L)) p7 p8 p9 (by rw[mw s1];exact hP) (by rw[length_append,hc];rfl) (λx hx=>by
    rcases mem_append.mp hx with z|z
    .exact hcn x z
    .rw[mem_singleton.mp z];exact(v3 a ha).1) (λtl=>by
    rw[List.append_assoc,hdu];show due (fs U) lvl b ((i:Int)-1) (a::tl)=_;rw[du a ha,ea,show(((i+1:Nat):Int)-1)=(i:Int)by omega])
   have er:run U (L::lw) b P=run U lw (!m) s.2:=by rw[run,s1,Option.bind_some,s2]
   rw[er];rcases ih with⟨P',b',ch',q6,q7,q8,q9,r1,r2⟩|⟨r1,ch',r2,r3⟩
   .exact .inl ⟨P',b',ch',q6,q7,q8,q9,r1,qr e r2⟩
   .exact .inr ⟨r1,ch',r2,qr e r3⟩
end
def vU {R L Sp} (h:R Y=!(.lst ds)) (hl:L Y=!ds) (hs:lfL ds=false->Sp Y=!(.lst ds)):frX R L Sp Y=!(.lst ds):=by
 unfold frX orO;simp only[h,hl,lfO,fJ,Option.bind_some,rp];grind
def  sWL (f:Fn):Prop:=∀ (lt:Lts) (gs:List Gr),(levs lt gs).length<=100->f [bu lt gs]=dp (lvD (levs lt gs))
def Nz (hf:fl "Wish" "level_letters"=true):sWL (aC 1 2 (iV fl)):=λlt gs hl=>by
 have hw:qN fl "level_letters" (bu lt gs)=!(lvD (levs lt gs)):=by
  simp[qN,bu,hf];rfl
 have hJ:jX noV (flF fl "level_letters" (va 0)) [!(bu lt gs),none]=!((levs lt gs).map scD):=by
  simp only[aR,Fy,va_a,shAt_0,Option.bind_some,hw];rfl
 have li:∀l:N9,liF (x1 (va 1)) [!(bu lt gs),!(scD l)]=!(scD l):=λl=>by rw[tE];rfl
 have hC:ah [1] (jX noV (flF fl "level_letters" (va 0))) (gNm 1) tQ (liF (x1 (va 1))) [!(bu lt gs),none]=!((levs lt gs).map scD):=
  aw hJ (λl _=>by simp only[stepF_a,wipe_cons,wipe_nil,gNm_a,tQ_a,List.set_cons_succ,List.set_cons_zero,Option.bind_some,if_true,li]) (lt_big hl)
 have hS:fCo [1] (jX noV (flF fl "level_letters" (va 0))) (gNm 1) tQ (frX (liF (x1 (va 1))) (l1F (x1 (va 1))) (fNo (x1 (va 1)))) [!(bu lt gs),none]=!(lvD (levs lt gs)):=by
  have:ah [1] (jX noV (flF fl "level_letters" (va 0))) (gNm 1) tQ (frX (liF (x1 (va 1))) (l1F (x1 (va 1))) (fNo (x1 (va 1)))) [!(bu lt gs),none]=!_:=
   aw hJ (λl _=>by
    have:=vU (Sp:=fNo (x1 (va 1))) (li l) (show l1F (x1 (va 1)) [!_,!(scD l)]=some _ from rfl) (λz=>by rw[tW]at z;cases z);simp only[stepF_a,wipe_cons,wipe_nil,gNm_a,tQ_a,List.set_cons_succ,List.set_cons_zero,Option.bind_some,if_true,this];rfl) (lt_big hl)
  unfold fCo;rw[this];rfl
 refine al rfl ?_;show iV fl [sn (bu lt gs),none]=_;have:=vU ((lsF_a ..).trans (congrArg _ hC)) hC (λ_=>hS);refine q_ret (Y':=[sn (bu lt gs),none]) ?_;unfold evX orO i8;rw[show vw [sn (bu lt gs),none]=[!_,none]from rfl,this];rfl
end K16
namespace K16
open PySem PySem.Spec PyProof.Rows L2
def  uf (bn:Fn):Cl:=(ac (ifS (orQ (cC (trF (biF dD (x2 (va 2) (cT "list"))))) (ag (aa (aD false) (lnF (va 2)) (cI 0)))) (rtF (evV (cB false))) nxE) (ac (ao 3 (evV cN)) (ac (ao 4 (evV (ngF (cI 1)))) (ac (frF (jR (x1 (lnF (va 2)))) (eNm 5) (ac (ao 6 (evX (lsF (ah [8] (jR (x1 (lnF (va 1)))) (gNm 8) (ag (aa inD (aa ixD (va 2) (va 5)) (aa ixD (va 1) (va 8)))) (va 8))) (ah [8] (jR (x1 (lnF (va 1)))) (gNm 8) (ag (aa inD (aa ixD (va 2) (va 5)) (aa ixD (va 1) (va 8)))) (va 8)) (fCo [8] (jR (x1 (lnF (va 1)))) (gNm 8) (ag (aa inD (aa ixD (va 2) (va 5)) (aa ixD (va 1) (va 8)))) (frX (va 8) noV noV)))) (ac (ifS (orQ (ag (aa (aD true) (lnF (va 6)) (cI 1))) (ag (aa leD (aa ixD (va 6) (cI 0)) (va 4)))) (rtF (evV (cB false))) nxE) (ac (ao 4 (evV (aa ixD (va 6) (cI 0)))) (ac (ao 7 (evC bn (x2 (aa ixD (va 0) (aa ixD (va 2) (va 5))) (va 3)))) (ac (ifS (ag (aa (iE false) (va 7) cN)) (rtF (evV (aa (aD false) (va 5) (aa bU (lnF (va 2)) (cI 1))))) nxE) (ac (ao 3 (evV (aa ixD (va 7) (cI 0)))) nxE))))))) (rtF (evV (cB false)))))))
def  jP (eS:Fn):Cl:=(ac (ifS (orQ (cC (trF (biF dD (x2 (va 0) (cT "tuple"))))) (orQ (ag (aa (aD true) (lnF (va 0)) (cI 2))) (cC (trF (biF dD (x2 (aa ixD (va 0) (cI 1)) (cT "list"))))))) (rtF (evV (cB false))) nxE) (ac (ifS (ag (aa (iE false) (va 1) cN)) (rtF (evV (oE (aa (aD false) (aa ixD (va 0) (cI 0)) (cS "chain")) (clF eS (x3 (va 2) (va 3) (aa ixD (va 0) (cI 1))))))) nxE) (ac (ifS (orQ (ag (aa (aD true) (aa ixD (va 0) (cI 0)) (cS "plan"))) (ag (aa (aD true) (aa ixD (va 0) (cI 1)) (va 1)))) (rtF (evV (cB false))) nxE) (rtF (evX (biF mO (x1 (lsF (ah [4] (jX noV (aa ixD (va 0) (cI 1))) (gNm 4) tQ (biF dD (x2 (va 4) (cT "tuple"))))))) noV (fNo (x1 (lsF (ah [4] (jX noV (aa ixD (va 0) (cI 1))) (gNm 4) tQ (biF dD (x2 (va 4) (cT "tuple"))))))))))))
def LB {x:α} {y:β} (h:f x=!y):orO f g x=!y:=by unfold orO;rw[h]
def IK (n:Nat):(List.replicate n []).map wD=(!16).map λ_=>wD []:=by rw[List.map_const',length_range,List.map_replicate]
def  sMW (mt:MT) (k:Nat):Prop:=∀ (lt:Lts) (gs:List Gr),(levs lt gs).length<=100->lm mt k "levels" (bu lt gs) []=dp (lvD (levs lt gs))
def  sLP (nx cw f:Fn):Prop:=∀ (ps:N0) (ls:List K21.Lz) (lt:Lts) (gs:List Gr) (U:Nat->List Pq) (lv:List (N7)) (lvl:Nat->Nat),Opn nx cw ps ls U->(∀l∈ls,K21.LzOk ps l)->(levs lt gs).length<=100->lvD (levs lt gs)=lvR lv->Lvn ls.length lv lvl->
 (∃P,run U lv none (List.replicate ls.length [])=!P/\f [au ps,K21.lzsD ls,bu lt gs]=dp (.tup [.str "plan",wsD P]))\/(run U lv none (List.replicate ls.length [])=none/\∃ch,Chn ls.length U lvl ch/\f [au ps,K21.lzsD ls,bu lt gs]=dp (.tup [.str "chain",aq ch]))
def ES {mt kk} {cw nx lo} (hm:sMW mt kk) (hlo:K21.sLookZ lo):sLP nx cw (aC 3 10 (jO mt kk cw nx lo)):=λps ls lt gs U lv lvl W hok h100 hlv V=>by
 have el:=hlo ps ls W.n hok;have n24:=W.n;have em:∀Y:Vv,bO Y 2=!(bu lt gs)->jX noV (meF (va 2) af mt kk "levels") Y=!_:=λY h=>by
  show(valO (mW (va 2) af mt kk "levels" Y)).bind seqD=_;unfold mW;rw[va_a,h,Option.bind_some];show(valO (lm mt kk "levels" (bu lt gs) [])).bind seqD=_;rw[hm lt gs h100,hlv];rfl
 have hc:ah [8] (jX noV (va 1)) (gNm 8) tQ (tpF af) (vw [sn (au ps),sn (K21.lzsD ls),sn (bu lt gs),none,none,none,none,none,none,none])=!((List.replicate ls.length []).map wD):=by
  rw[IK,show((List.range ls.length).map λ_=>wD [])=ls.map λ_=>wD []by rw[List.map_const',List.map_const',length_range]];exact aw rfl (λk _=>rfl) (lt_big (!1))
 have pre:∀s:Sl,(ac (frF (jX noV (meF (va 2) af mt kk "levels")) (eNm 6) (BP nx cw)) (ac (orO (rtP "plan" 3) (bW (evX (tpF (x2 (cS "plan") (va 3))) noV (fTp (x2 (frX (cS "plan") noV noV) (frX (va 3) noV noV)))))) nxE) (sP ps ls (bu lt gs) (List.replicate ls.length []) none [] none none none none)=!(.rt s))->aC 3 10 (jO mt kk cw nx lo) [au ps,K21.lzsD ls,bu lt gs]=!s:=λs h=>by
  refine al rfl ?_;refine vJ (clF_a.trans (congrArg valO el)) (q_set (evX_lfs ((lsF_a ..).trans (congrArg _ hc)) rfl hc (lf_ws _)) (q_set (evX_lf rfl rfl) (q_set (evX_lfs rfl rfl rfl rfl) h)))
 rcases lp_out W V lv 0 rfl none (List.replicate ls.length []) [] none none none none (List.length_replicate ..) rfl (λ_ h=>nomatch h) (λtl=>rfl)with⟨P,b,ch,o6,o7,o8,o9,r1,r2⟩|⟨r1,ch,r2,r3⟩
 .exact .inl ⟨P,r1,pre _ (q_st (frF_s (em _ rfl) r2) (seqF_rt (LB rfl)))⟩
 .exact .inr ⟨r1,ch,r2,pre _ (seqF_rt (frF_s (em _ rfl) r3))⟩
abbrev sBb (U:Nat->List Pq) (n:Nat) (lv:List (N7)) (ch:N7) (b:Os) (last:Int) (o5 o6 o7:N2):Ev:=[sn (ko U n),sn (lvR lv),sn (aq ch),dp (K21.bD b),dp (.int last),o5,o6,o7,none]
abbrev C6:Fx:=ah [8] (jR (x1 (lnF (va 1)))) (gNm 8) (ag (aa inD (aa ixD (va 2) (va 5)) (aa ixD (va 1) (va 8)))) (va 8)
def LC (V:Lvn n lv lvl) (hex:∀a,a<n->∃L,lv[lvl a]?=!L/\a∈L) (ha:a<n) (hk:ch[k]?=!a) (b:Os) (last:Int) (o6 o7:N2):C6 (vw (sBb U n lv ch b last (sn (iN k)) o6 o7))=![iN (lvl a)]:=by
 have hle:=V.le;have l1:dg [lvR lv]=!(iN lv.length):=by rw[bX,show seqD _=some _ from rfl,Option.bind_some,length_map]
 have i1:ixD (aq ch) (iN k)=!(iN a):=aM hk;have cc:C6 (vw (sBb U n lv ch b last (sn (iN k)) o6 o7))=!(((List.range lv.length).filter λj=>decide (j=lvl a)).map λ(j:Nat)=>D.int (j:Int)):=by
  refine iQ (mk:=λ(j:Nat)=>D.int (j:Int)) (fR ?_) (λj hj=>?_) (by rw[length_range];exact lt_big (!1))
  .simp only[sB,l1];exact a6 (!1)
  .have hj:=OD.mp hj;have i2:ixD (lvR lv) (iN j)=!_:=aM (getElem?_eq_getElem hj);have i3:inD (iN a) (aq lv[j])=!(.bl (decide (j=lvl a))):=by
    rw[show aq lv[j]=scD (lv[j].map λ(k:Nat)=>(k:Int))by unfold aq scD;rw[List.map_map];rfl,Lu];congr 2;rw[decide_eq_decide];constructor
    .intro h;let⟨x,hx,e⟩:=Ox.mp h;have:x=a:=by omega
     exact(((V.at_ j _ (getElem?_eq_getElem hj)).2.2 a (this▸hx)).2).symm
    .intro h;let⟨L,h1,h2⟩:=hex a ha;rw[<-h,getElem?_eq_getElem hj]at h1;cases h1;exact Ox.mpr ⟨a,h2,rfl⟩
   simp only[sB,i1,i2,i3];cases decide (j=lvl a)<;>rfl
 let⟨L,h1,_⟩:=hex a ha;have hl:=(On.mp h1).1;rw[cc];have:(List.range lv.length).filter (λj=>decide (j=lvl a))=[lvl a]:=by
  have nd:=(List.nodup_range (n:=lv.length)).filter λj=>decide (j=lvl a);have hm:∀x,x∈(List.range lv.length).filter (λj=>decide (j=lvl a))↔x=lvl a:=λx=>by
   rw[List.mem_filter,List.mem_range,decide_eq_true_iff];exact⟨λh=>h.2,λh=>⟨h▸hl,h⟩⟩
  exact((List.perm_ext_iff_of_nodup nd (by simp)).mpr λx=>by rw[hm,mem_singleton]).eq_singleton
 rw[this];rfl
end K16
namespace K16
open PySem PySem.Spec PyProof.Rows L2
def  Lvx (n:Nat) (lv:List (N7)) (lvl:Nat->Nat):Prop:=Lvn n lv lvl/\∀a,a<n->∃L,lv[lvl a]?=!L/\a∈L
def  IL (f:Fn):Prop:=∀ (U:Nat->List Pq) (n:Nat) (lv:List (N7)) (lvl:Nat->Nat) (ch:N7),Lvx n lv lvl->Chn n U lvl ch->f [ko U n,lvR lv,aq ch]=dp (.bl true)
def LD (hbe:yS be):IL (aC 3 9 (uf be)):=λU n lv lvl ch V C=>by
 let⟨c1,c2,c3⟩:=C;have c0:ch≠[]:=λz=>by rw[z]at c3;cases c3
 have hl0:=List.length_pos_iff.mpr c0;have lc:∀Y:Vv,bO Y 2=!(aq ch)->lnF (va 2) Y=!(iN ch.length):=λY h=>by simp only[biF_a,je,consX_a,nilX_a,va_a,h,Option.bind_some,xb]
 refine al rfl ?_;refine q_if0 ?_ (q_set (evX_lf rfl rfl) (q_set (evX_lf rfl rfl) (q_rngR (n:=ch.length) (λi Y=>∃b last o5 o6 o7,due (fs U) lvl b last (ch.drop i)=true/\Y=sBb U n lv ch b last o5 o6 o7) (fR ?_) ⟨none,-1,none,none,none,c3,rfl⟩ ?_ ?_)))
 .have t1:trF (biF dD (x2 (va 2) (cT "list"))) (vw [sn (ko U n),sn (lvR lv),sn (aq ch),none,none,none,none,none,none])=!true:=rfl;have t2:ag (aa (aD false) (lnF (va 2)) (cI 0)) (vw [sn (ko U n),sn (lvR lv),sn (aq ch),none,none,none,none,none,none])=!false:=by
   rw[testB_a,bin2_a,lc _ rfl];show(aD false (iN ch.length) (.int 0)).bind D.asB=_;rw[tF];show some (decide ((ch.length:Int)=0))=_;rw[decide_eq_false (!1)]
  exact t2
 .show(x1 (lnF (va 2)) (shv (sBb U n lv ch none (-1) none none none))).bind oF=_;rw[je,consX_a,lc _ rfl];exact a6 (!1)
 .rintro i Y hi ⟨b,last,o5,o6,o7,hd,rfl⟩;have ha:=getElem?_eq_getElem hi;generalize ch[i]=a at ha;have han:=c1 a (OE ha);have dr:ch.drop i=a::ch.drop (i+1):=by rw[List.drop_eq_getElem_cons hi,(List.getElem?_eq_some_iff.mp ha).2]
  rw[dr,due,Cu]at hd;have hlt:¬ (lvl a:Int)<=last:=λz=>by rw[if_pos z]at hd;cases hd
  rw[if_neg hlt]at hd;have ia:ixD (aq ch) (iN i)=!(iN a):=aM ha;have io:=Cp (U:=U) han;have eb:=hbe (U a) b;have e6:=LC V.1 V.2 (U:=U) han ha b last o6 o7;have i0:ixD (.lst [iN (lvl a)]) (.int 0)=!_:=ly _ _;have t:orQ (ag (aa (aD true) (lnF (va 6)) (cI 1))) (ag (aa leD (aa ixD (va 6) (cI 0)) (va 4))) (vw (sBb U n lv ch b last (sn (iN i)) (dp (.lst [iN (lvl a)])) o7))=!false:=by
   have t2:ag (aa leD (aa ixD (va 6) (cI 0)) (va 4)) (vw (sBb U n lv ch b last (sn (iN i)) (dp (.lst [iN (lvl a)])) o7))=!false:=by
    simp only[sB,i0,HH];rw[decide_eq_false hlt]
   exact t2
  have e7:evC be (x2 (aa ixD (va 0) (aa ixD (va 2) (va 5))) (va 3)) (sBb U n lv ch b (lvl a) (sn (iN i)) (dp (.lst [iN (lvl a)])) o7)=!((.deep,fbD (lJ U b a)),sBb U n lv ch b (lvl a) (sn (iN i)) (dp (.lst [iN (lvl a)])) o7):=by
   refine evX_lf (clF_a.trans ?_) (FO _);simp only[sB,ia,io,eb];rfl
  have go:∀out,ac (ifS (ag (aa (iE false) (va 7) cN)) (rtF (evV (aa (aD false) (va 5) (aa bU (lnF (va 2)) (cI 1))))) nxE) (ac (ao 3 (evV (aa ixD (va 7) (cI 0)))) nxE) (sBb U n lv ch b (lvl a) (sn (iN i)) (dp (.lst [iN (lvl a)])) (dp (fbD (lJ U b a))))=out->ac (ao 6 (evX _ C6 (fCo [8] (jR (x1 (lnF (va 1)))) (gNm 8) (ag (aa inD (aa ixD (va 2) (va 5)) (aa ixD (va 1) (va 8)))) (frX (va 8) noV noV)))) (ac (ifS (orQ (ag (aa _ _ (cI 1))) (ag (aa leD _ (va 4)))) (rtF (evV (cB false))) nxE) (ac (ao 4 (evV (aa ixD (va 6) (cI 0)))) (ac (ao 7 (evC be (x2 (aa ixD (va 0) _) (va 3)))) (ac (ifS (ag (aa _ (va 7) cN)) (rtF (evV (aa _ (va 5) (aa bU _ (cI 1))))) nxE) (ac (ao 3 (evV _)) nxE))))) (sBb U n lv ch b last _ o6 o7)=out:=λout h=>
   q_set (evX_lfs ((lsF_a ..).trans (congrArg _ e6)) rfl e6 rfl) (q_if0 t (q_set (evX_lf (by simp only[sB,i0]) rfl) (q_set e7 h)))
  cases hq:lJ U b a with
  |none=>
   have hp:po U b a=none:=by unfold po;rw[hq];rfl
   rw[hp]at hd;have hlen:i+1=ch.length:=by
    have:=List.isEmpty_iff.mp hd;simp at this;omega
   right;refine go _ ?_;rw[hq];refine seqF_rt ((ifS_t rfl).trans (q_ret (evX_lf ?_ rfl)));rw[bin2_a,bin2_a,lc _ rfl];show aD false (iN i) (.int ((ch.length:Int)-1))=_;rw[tF];show some (D.bl (decide ((i:Int)=(ch.length:Int)-1)))=_;rw[decide_eq_true (!1)]
  |some q=>
   have hp:po U b a=!q.1:=by unfold po;rw[hq];rfl
   rw[hp]at hd;have i0':ixD (K21.fdD q) (.int 0)=!_:=ly _ _;refine .inl ⟨sBb U n lv ch _ (lvl a) (sn (iN i)) (dp (.lst [iN (lvl a)])) (dp (K21.fdD q)),go _ ?_,!q.1,lvl a,_,_,_,hd,rfl⟩;rw[hq];exact q_if0 rfl (q_set (evX_lf (by simp only[sB];exact i0') rfl) rfl)
 .rintro Y ⟨b,last,o5,o6,o7,hd,rfl⟩;rw[List.drop_length]at hd;cases hd
def LF (neg:Bool) (P:List (N7)):aD neg (wsD P) (wsD P)=!(.bl (not neg)):=by
 have h:okL (P.map wD)=true/\aQ (P.map wD)<=1:=by
  induction P with
  |nil=>exact⟨rfl,Nat.zero_le _⟩
  |cons w P ih=>
   have k:=jd w;refine⟨by show(okL (w.map λ(k:Nat)=>D.int (k:Int))&&okL _)=true;rw[k.1,ih.1];rfl,by show max (aQ (w.map λ(k:Nat)=>D.int (k:Int))+1) (aQ _)<=1;rw[k.2];have:=ih.2;omega⟩
 exact rG neg h.1 (by show aQ (P.map wD)+1<=50;omega) rfl rfl
def  vV (f:Fn):Prop:=(∀ (P:List (N7)) (x y:D),P.length<=24->f [.tup [.str "plan",wsD P],wsD P,x,y]=dp (.bl true))/\∀ (U:Nat->List Pq) (n:Nat) (lv:List (N7)) (lvl:Nat->Nat) (ch:N7),Lvx n lv lvl->Chn n U lvl ch->f [.tup [.str "chain",aq ch],.non,ko U n,lvR lv]=dp (.bl true)
def ET (hba:IL ba):vV (aC 4 5 (jP ba)):=by
 refine⟨λP x y hP=>?_,λU n lv lvl ch V C=>?_⟩
 .refine al rfl ?_;show jP ba [sn (.tup [.str "plan",wsD P]),sn (wsD P),sn x,sn y,none]=_;refine q_if0 rfl (q_if0 rfl (q_if0 ?_ (q_ret (evX_lf (biF_a.trans ?_) rfl))))
  .have t2:ag (aa (aD true) (aa ixD (va 0) (cI 1)) (va 1)) (vw [sn (.tup [.str "plan",wsD P]),sn (wsD P),sn x,sn y,none])=!false:=by
    show(aD true (wsD P) (wsD P)).bind D.asB=_;rw[LF];rfl
   exact t2
  .have hc:ah [4] (jX noV (aa ixD (va 0) (cI 1))) (gNm 4) tQ (biF dD (x2 (va 4) (cT "tuple"))) (vw [sn (.tup [.str "plan",wsD P]),sn (wsD P),sn x,sn y,none])=!(P.map λ_=>.bl true):=aw rfl (λw _=>rfl) (lt_big (!1));rw[je,consX_a,lsF_a,hc];show mO [.lst (P.map λ_=>.bl true)]=_;rw[fS];simp
 .have eb:=hba U n lv lvl ch V C;refine al rfl ?_;refine q_if0 rfl (seqF_rt ((ifS_t rfl).trans (q_ret (evX_lf ?_ rfl))));show oE _ (clF ba (x3 (va 2) (va 3) (aa ixD (va 0) (cI 1)))) [!(.tup [.str "chain",aq ch]),some .non,!(ko U n),!(lvR lv),none]=_;have e:clF ba (x3 (va 2) (va 3) (aa ixD (va 0) (cI 1))) [!(.tup [.str "chain",aq ch]),some .non,!(ko U n),!(lvR lv),none]=!_:=clF_a.trans (congrArg valO eb);rw[HG,e];rfl
end K16
namespace K16
open PySem PySem.Spec PyProof.Rows L2
def  xw (dM dH dL cY bG:Fn) (r6:Oc->Option (List (Str×D))) (rX:Oc->Option (List (Str×D))) (cX cA cW cV:Fn):Cl:=(ac (ao 1 (evC cV (x2 (va 0) (cI 64)))) (ac (ao 2 (evC cW (x2 (va 1) (cI 40)))) (ac (ao 3 (evC cA (x4 (va 1) (cI 43) (va 2) (cI 24)))) (ac (ao 4 (evC cX (x3 (va 1) (cI 54) (lnF (va 3))))) (ac (ao 5 (evX (mkF "Mill" rX (x1 (va 2))) noV (fNo (x1 (va 2))))) (ac (ao 6 (evX (mkF "Wish" r6 (x2 (va 3) (va 4))) noV (fNo (x2 (va 3) (va 4))))) (ac (ao 7 (evX (lsF (ah [13] (jR (x1 (lnF (va 3)))) (gNm 13) tQ (clF bG (x3 (va 2) (va 3) (va 13))))) (ah [13] (jR (x1 (lnF (va 3)))) (gNm 13) tQ (clF bG (x3 (va 2) (va 3) (va 13)))) (fCo [13] (jR (x1 (lnF (va 3)))) (gNm 13) tQ (frX (clF bG (x3 (va 2) (va 3) (va 13))) noV (fCl bG (x3 (va 2) (va 3) (va 13))))))) (ac (ao 8 (evC cY (x2 (va 3) (va 4)))) (ac (ao 9 (evC dL (x2 (va 7) (va 8)))) (ac (ao 10 (evX (liF (x1 (va 3))) (l1F (x1 (va 3))) (fNo (x1 (va 3))))) (ac (frF (jR (x1 (cI 2))) (eNm 11) (ac (ao 12 (evC dH (x3 (va 5) (va 10) (va 6)))) (ac (ifS (orQ (cC (trF (clF dM (x4 (va 12) (va 9) (va 7) (va 8))))) (ag (aa (aD true) (va 10) (va 3)))) (rtF (evV (cB false))) nxE) (ac (apP 12 (cI 0)) nxE)))) (rtF (evV (cB true))))))))))))))
def evX_l2 {R L Sp} (h:R (vw Y)=!(.lst ds)) (hl:L (vw Y)=!ds) (hs:lfL ds=false->Sp (vw Y)=!(.lst ds)):evX R L Sp Y=!((.deep,.lst ds),Y):=by
 unfold evX orO i8;rw[vU h hl hs];rfl
def LG {R L Sp} (h:R Y=!(.lst ds)) (hl:L Y=none) (hs:Sp Y=!e):frX R L Sp Y=!e:=by
 unfold frX orO;simp only[h,hl,lfO,fJ,Option.bind_none,Option.bind_some,rp,hs];rfl
def LH (neg:Bool) (ls:List K21.Lz):aD neg (K21.lzsD ls) (K21.lzsD ls)=!(.bl (not neg)):=by
 have h:okL (ls.map K21.lzD)=true/\aQ (ls.map K21.lzD)<=1:=by
  induction ls with
  |nil=>exact⟨rfl,Nat.zero_le _⟩
  |cons l ls ih=>exact⟨by show(true&&okL (ls.map K21.lzD))=true;rw[ih.1];rfl,by show max (max 0 (max 0 0)+1) (aQ (ls.map K21.lzD))<=1;have:=ih.2;omega⟩
 exact rG neg h.1 (by show aQ (ls.map K21.lzD)+1<=50;omega) rfl rfl
def IM (hl:bp lt) (G:Good m gs):∃lv lvl,lvD (levs lt gs)=lvR lv/\Lvx m lv lvl/\(levs lt gs).length<=100:=by
 let⟨V,_⟩:=IG hl G;have hle:=(fU hl G.ne).1;have hfl:=(fU hl G.ne).2;have gl:=G.len;have gm:=G.le;have pos:∀l∈levs lt gs,∀x∈l,0<=x/\x<(m:Int):=λl hl' x hx=>by
  let⟨n,hn,rfl⟩:=Ox.mp ((iA hl gs).mem_iff.mp (List.mem_flatten.mpr ⟨l,hl',hx⟩));have:=OD.mp (G.pm.mem_iff.mp hn);exact⟨Int.natCast_nonneg _,by omega⟩
 refine⟨(levs lt gs).map λl=>l.map Int.toNat,vS (levs lt gs),?_,⟨⟨by rw[length_map];omega,λi L hi=>?_⟩,λa ha=>?_⟩,by omega⟩
 .unfold lvD lvR;rw[List.map_map];refine congrArg D.lst (List.map_congr_left λl hl'=>?_);show scD l=aq (l.map Int.toNat);unfold scD aq;rw[List.map_map];refine congrArg D.lst (List.map_congr_left λx hx=>?_);show D.int x=D.int ((x.toNat:Nat):Int);rw[Int.toNat_of_nonneg (pos l hl' x hx).1]
 .rw[getElem?_map]at hi;let⟨l,h1,rfl⟩:=Option.map_eq_some_iff.mp hi;have hm:=OE h1;have il:=(On.mp h1).1;refine⟨λz=>xg hl G.ne l hm (List.map_eq_nil_iff.mp z),?_,λa ha=>?_⟩
  .have:=(List.sublist_flatten_of_mem hm).length_le;rw[length_map];omega
  .let⟨x,hx,rfl⟩:=Ox.mp ha;let⟨x0,x1⟩:=pos l hm x hx;refine⟨by omega,((V.at_ x.toNat (!1) i il).mp ?_).symm⟩;rw[List.getD_eq_getElem?_getD,h1,Int.toNat_of_nonneg x0];exact hx
 .have h1:=V.lt a ha;have h2:=(V.at_ a ha _ h1).mpr rfl;rw[List.getD_eq_getElem?_getD,getElem?_eq_getElem h1]at h2;exact⟨_,by rw[getElem?_map,getElem?_eq_getElem h1];rfl,Ox.mpr ⟨(a:Int),h2,Int.toNat_natCast a⟩⟩
abbrev sA (ns cs:N9) (ps:N0) (ls:List K21.Lz) (gs:List Gr) (o6 o7 o8 o9 o10 o11 o12:N2):Ev:=[sn (scD ns),sn (scD cs),sn (lpD ps),sn (K21.lzsD ls),sn (gsD gs),sn (au ps),o6,o7,o8,o9,o10,o11,o12,none]
abbrev sU (ns cs:N9) (ps:N0) (ls:List K21.Lz) (gs:List Gr) (U:Nat->List Pq) (o8 o9 o10 o11 o12:N2):Ev:=sA ns cs ps ls gs (sn (bu (lI ls) gs)) (dp (ko U ls.length)) o8 o9 o10 o11 o12
def EU {rt lp ls' le op wi mi gr lt pa fo nx cw} (hrt:vV rt) (hlp:sLP nx cw lp) (hls:IH ls') (hlv:yO le) (hop:K21.sOpenL op) (hwi:B5 wi) (hmi:Bz mi) (hgr:IC gr) (hlt:K21.sLettersZ lt) (hpa:K21.sLPass40 pa) (hfo:rD fo) (hnx:K21.sNext nx) (hcw:sCW cw) (ns:N9) (hn:ns.length<=63):valO (aC 1 14 (xw rt lp ls' le op wi mi gr lt pa fo) [scD ns])=!(.bl true):=by
 let⟨cs,lc,e0⟩:=hfo ns 64 (!1) (!5) (!5)
 have e0:fo [scD ns,.int 64]=dp (scD cs):=e0
 let⟨ps,hv,h40,e1⟩:=hpa cs (!1)
 let⟨ls,h24,hok,e2⟩:=hlt cs ps (!1) hv
 have h64:prod ps<64:=by omega
 let⟨gs,G,e3⟩:=hgr cs ls.length lc h24
 have hlate:bp (lI ls):=λp hp=>by
  let⟨l,h1,rfl⟩:=Ox.mp hp
  have:=(hok l h1).3
  have:=hv.len
  exact⟨Int.natCast_nonneg _,by show(l.2:Int)<10;omega⟩
 have hlen:(lI ls).length=ls.length:=length_map _
 let⟨c5,hc5,e5⟩:=hlv ls.length (lI ls) gs hlate hlen G
 have e6:=hwi ls.length (lI ls) gs hlate hlen G
 rw[<-Lr]at e5 e6
 let⟨lv,lvl,elv,V,h100⟩:=IM hlate G
 have ex:∀k,k<ls.length->∃U:List Pq,U.length<64/\op [lpD ps,K21.lzsD ls,iN k]=dp (.lst (U.map K21.fdD))/\(∀b:Os,valO (nx [au ps,K21.lzsD ls,iN k,K21.bD b])=!(K21.bD ((U.map (·.1)).find? (K21.byd b))))/\∀l,ls[k]?=!l->∀q∈U,cw [au ps,iN l.2,.int q.1.1]=dp (wD q.2):=λk hk=>by
  have hl:=getElem?_eq_getElem hk
  let⟨T,t1,t2,t3⟩:=hnx ps ls k _ hv h64 h24 hok hl
  let⟨U,u1,u2,u3⟩:=hop ps ls k _ hv h64 h24 hok hl
  let⟨P,U',a1,a2,a3,a4⟩:=K21.places hnx hop hv h64 h24 hok hl
  have eU:U'=U:=by
   have h:=u3
   rw[a2]at h
   have h:U'.map K21.fdD=U.map K21.fdD:=by injection h with h;injection h with _ h;injection h
   refine(List.map_inj_right λx y e=>?_).mp h
   injection e with e
   injection e with e e'
   injection e with e
   injection e with e1 e2
   injection e2 with e2
   injection e1 with e1
   injection e2 with e2
   injection e' with e'
   injection e' with e'
   have e':x.2.map (λ(i:Nat)=>D.int (i:Int))=y.2.map λ(i:Nat)=>D.int (i:Int):=e'
   exact Prod.ext (Prod.ext e1 e2) ((List.map_inj_right λi j e=>by injection e with e;omega).mp e')
  subst eU
  refine⟨U',by rw[<-a3,length_map]at a1;exact a1,a2,λb=>by rw[a3];exact a4 b,λl hl' q hq=>?_⟩
  rw[hl]at hl'
  cases hl'
  let⟨w,hw,rfl⟩:=Ox.mp (u1.mem_iff.mp hq)
  let⟨w1,w2⟩:=K21.wds_mem _ w (List.mem_filter.mp hw).1
  exact hcw ps _ w hv (hok _ (List.getElem_mem hk)).3 w1 w2
 obtain⟨U,hU⟩:∃U:Nat->List Pq,∀k,k<ls.length->(U k).length<64/\op [lpD ps,K21.lzsD ls,iN k]=dp (.lst ((U k).map K21.fdD))/\(∀b:Os,valO (nx [au ps,K21.lzsD ls,iN k,K21.bD b])=!(K21.bD (((U k).map (·.1)).find? (K21.byd b))))/\∀l,ls[k]?=!l->∀q∈U k,cw [au ps,iN l.2,.int q.1.1]=dp (wD q.2):=by
  classical
  refine⟨λk=>if h:k<ls.length then(ex k h).choose else[],λk hk=>?_⟩
  dsimp only
  rw[dif_pos hk];exact(ex k hk).choose_spec
 have W:Opn nx cw ps ls U:=⟨h24,λa ha b=>by rw[(hU a ha).2.2.1 b,show(U a).map (·.1)=fs U a from rfl,Cu],λa l hl q hq=>(hU a (On.mp hl).1).2.2.2 l hl q hq⟩
 have e4:mi [lpD ps]=![(("passes":Str),gu ps)]:=by
  have i1:(ps.map λp=>(true,p)).map (·.2)=ps:=by rw[List.map_map];exact List.map_id ps
  have q:=hmi true (ps.map λp=>(true,p)) (by rw[i1];exact hv)
  rw[i1,<-HY]at q
  exact q
 have lz:∀Y:Vv,bO Y 3=!(K21.lzsD ls)->lnF (va 3) Y=!(iN ls.length):=λY h=>by
  simp only[biF_a,je,consX_a,nilX_a,va_a,h,Option.bind_some,bX,show seqD (K21.lzsD ls)=some (ls.map K21.lzD)from rfl,length_map]
 have lfz:lfL (ls.map K21.lzD)=true:=br λd hd=>by
  let⟨l,_,rfl⟩:=Ox.mp hd
  rfl
 have lst:=hls U ls.length lv h24 (λL hL a ha=>by
  let⟨i,hi⟩:=List.mem_iff_getElem?.mp hL
  exact((V.1.at_ i L hi).2.2 a ha).1)
 have hLP:=hlp ps ls (lI ls) gs U lv lvl W hok h100 elv V.1
 generalize hr:run U lv none (List.replicate ls.length [])=r at lst hLP
 -- what least_plan hands back is right
 obtain⟨st,ds,f1,f2,f3⟩:∃ (st:Str) (ds:Oc),lp [au ps,K21.lzsD ls,bu (lI ls) gs]=dp (.tup [.str st,.lst ds])/\rt [.tup [.str st,.lst ds],rnD r,ko U ls.length,lvR lv]=dp (.bl true)/\ds.length<=24:=by
  rcases hLP with⟨P,q1,q2⟩|⟨q1,ch,q2,q3⟩
  .subst q1
   have hP:P.length=ls.length:=(xq hr).trans (List.length_replicate ..)
   exact⟨_,_,q2,hrt.1 P _ _ (!1),by rw[length_map];omega⟩
  .subst q1
   exact⟨_,_,q3,hrt.2 U ls.length lv lvl ch V q2,by rw[length_map];exact q2.2.1⟩
 have hC:∀E:Fv,(∀k,k<ls.length->E [!(scD ns),!(scD cs),!(lpD ps),!(K21.lzsD ls),!(gsD gs),!(au ps),!(bu (lI ls) gs),none,none,none,none,none,none,!(iN k)]=!(.lst ((U k).map K21.fdD)))->ah [13] (jR (x1 (lnF (va 3)))) (gNm 13) tQ E (vw (sA ns cs ps ls gs (sn (bu (lI ls) gs)) none none none none none none))=!((List.range ls.length).map λk=>.lst ((U k).map K21.fdD)):=λE hE=>by
  refine aw (xs:=List.range ls.length) (mk:=λ(k:Nat)=>D.int (k:Int)) (fR ?_) (λk hk=>?_) (by rw[length_range];exact lt_big (!1))
  .rw[je,consX_a,lz _ rfl]
   exact a6 (!1)
  .exact(congrArg (·.bind λy=>!(!y)) (hE k (OD.mp hk))).trans rfl
 have c1:=hC (clF op (x3 (va 2) (va 3) (va 13))) λk hk=>clF_a.trans (congrArg valO (hU k hk).2.1)
 have c2:=hC (frX (clF op (x3 (va 2) (va 3) (va 13))) noV (fCl op (x3 (va 2) (va 3) (va 13)))) λk hk=>LG (clF_a.trans (congrArg valO (hU k hk).2.1)) rfl (fCl_a.trans (congrArg deepO (hU k hk).2.1))
 have m1:mkF "Mill" mi (x1 (va 2)) [!(scD ns),!(scD cs),!(lpD ps),!(K21.lzsD ls),!(gsD gs),none,none,none,none,none,none,none,none,none]=!(au ps):=by
  simp only[sB,Fz,e4];rfl
 have w1:mkF "Wish" wi (x2 (va 3) (va 4)) [!(scD ns),!(scD cs),!(lpD ps),!(K21.lzsD ls),!(gsD gs),!(au ps),none,none,none,none,none,none,none,none]=!(bu (lI ls) gs):=by
  simp only[sB,nJ,Fz,e6];rfl
 have g3:x3 (va 1) (cI 54) (lnF (va 3)) [!(scD ns),!(scD cs),!(lpD ps),!(K21.lzsD ls),none,none,none,none,none,none,none,none,none,none]=![scD cs,.int 54,iN ls.length]:=by
  rw[Ex,consX_a,nJ,consX_a,je,consX_a,lz _ rfl];rfl
 rw[elv]at e5
 obtain⟨c8,e8⟩:∃c8,evC le (x2 (va 3) (va 4)) (sU ns cs ps ls gs U none none none none none)=!((c8,lvR lv),sU ns cs ps ls gs U none none none none none):=by
  have l5:∀Y:Vv,bO Y 3=!(K21.lzsD ls)->bO Y 4=!(gsD gs)->clF le (x2 (va 3) (va 4)) Y=!(lvR lv):=λY h3 h4=>by
   simp only[clF_a,nJ,je,consX_a,nilX_a,va_a,h3,h4,Option.bind_some,e5];rfl
  cases c5 with
  |deep=>exact⟨_,evX_call (l5 _ rfl rfl) rfl rfl (fCl_a.trans (congrArg deepO e5))⟩
  |_=>exact⟨_,evX_sh (l5 _ rfl rfl) rfl rfl (fCl_a.trans (congrArg deepO e5)) rfl (l5 _ rfl rfl)⟩
 have main:xw rt lp ls' le op wi mi gr lt pa fo [sn (scD ns),none,none,none,none,none,none,none,none,none,none,none,none,none]=!(.rt (.deep,.bl true)):=by
  unfold xw
  refine q_set (evX_call (clF_a.trans (congrArg valO e0)) rfl rfl (fCl_a.trans (congrArg deepO e0))) (q_set (evX_call (clF_a.trans (congrArg valO e1)) rfl rfl (fCl_a.trans (congrArg deepO e1))) (q_set (evX_call (clF_a.trans (congrArg valO e2)) rfl rfl (fCl_a.trans (congrArg deepO e2))) (q_set (evX_call (clF_a.trans ((congrArg (·.bind λds=>valO (gr ds)) g3).trans (congrArg valO e3))) rfl rfl (fCl_a.trans ((congrArg (·.bind λds=>deepO (gr ds)) g3).trans (congrArg deepO e3))))
   (q_set (evX_fz m1 rfl rfl rfl rfl rfl) (q_set (evX_sh w1 rfl rfl rfl rfl w1) (q_set (evX_l2 ((lsF_a ..).trans (congrArg (Option.map D.lst) c1)) c1 λ_=>congrArg (Option.bind · _) c2) (q_set e8 (q_set (s:=(.deep,rnD r)) (Y':=sU ns cs ps ls gs U (!(c8,lvR lv)) none none none none) ?_ (q_set (s:=(.deep,K21.lzsD ls)) (evX_lfs (d:=K21.lzsD ls) (ds:=ls.map K21.lzD) (by rw[tE];rfl) rfl (by rw[FA];rfl) lfz)
   (q_rngR (n:=2) (λ_ Y=>∃o11 o12,Y=sU ns cs ps ls gs U (!(c8,lvR lv)) (dp (rnD r)) (dp (K21.lzsD ls)) o11 o12) (fR (a6 (n:=2) (!5))) ⟨none,none,rfl⟩ ?_ ?_))))))))))
  .have ev:=clF_a (f:=ls') (xs:=x2 (va 7) (va 8)) (Y:=vw (sU ns cs ps ls gs U (!(c8,lvR lv)) none none none none))|>.trans (congrArg valO lst)
   cases r with
   |none=>exact evX_lf ev rfl
   |some P=>exact evX_call ev rfl rfl (fCl_a.trans (congrArg deepO lst))
  .rintro i Y hi ⟨o11,o12,rfl⟩
   refine .inl ⟨sU ns cs ps ls gs U (!(c8,lvR lv)) (dp (rnD r)) (dp (K21.lzsD ls)) (sn (iN i)) (dp (.tup [.str st,.lst (ds++[.int 0])])),q_set (evX_call (d:=.tup [.str st,.lst ds]) (clF_a.trans (congrArg valO f1)) rfl rfl (fCl_a.trans (congrArg deepO f1))) (q_if0 ?_ (q_st ?_ rfl)),_,_,rfl⟩
   .rw[pV,notQ_a,trF_a,clF_a]
    refine(congrArg (λo=>(((valO o).bind uJ).map (not ·)).bind _) f2).trans ?_
    show(aD true (K21.lzsD ls) (K21.lzsD ls)).bind D.asB=_
    rw[LH];rfl
   .unfold apP
    show(if lfD (.str st)=true/\lfD (.int 0)=true/\ds.length+1<big then _ else _)=_
    rw[if_pos ⟨rfl,rfl,lt_big (!1)⟩]
    rfl
  .rintro Y ⟨o11,o12,rfl⟩
   exact q_ret (evX_lf rfl rfl)
 rw[show aC 1 14 (xw rt lp ls' le op wi mi gr lt pa fo) [scD ns]=some (.deep,.bl true)from al rfl main]
 rfl
end K16
namespace K16
open PySem PySem.Spec PyProof.Rows L2 K21
noncomputable def  scK (N P:N8) (sc:Scope):Bool:=decide (sc.kind=.function)&&(not sc.isCoroutine&&(not sc.isGenerator&&(decide N.Nodup&&(decide (N.take P.length=P)&&((P.all λx=>decide (sc.names.lookup x=some .local)||decide (sc.names.lookup x=some .cell))&&sc.names.all λy=>not (decide (y.2=.free)))))))
def scB (h:scK N P sc=true:=by kernel_rfl):FnScope N P sc:=by
 simp only[scK,and_eq_true,decide_eq_true_eq,Bool.not_eq_true',List.all_eq_true,Bool.or_eq_true,decide_eq_false_iff_not]at h;exact⟨h.1,h.2.1,h.2.2.1,h.2.2.2.1,h.2.2.2.2.1,h.2.2.2.2.2.1,h.2.2.2.2.2.2⟩
noncomputable def  top (i:Nat):Stmt:=PySem.Challenge.pw_pocketmill_k22_least_plans.main.body.getD i (.Pass ⟨0,0,0,0⟩)
def  G0:Gb where
 fn:=λ_=>none
 cn:=λx=>if x=("KINDS":Str)then !(.tup [(.str "queue"),(.str "pile")])else if x=("MOST_PASSES":Str)then !(.int 6)else if x=("MOST_POCKETS":Str)then !(.int 6)else if x=("MOST_WIDTH":Str)then !(.int 9)else if x=("MOST_CODES":Str)then !(.int 1000)else if x=("MOST_SIZE":Str)then !(.int 9)else if x=("MOST_LETTERS":Str)then !(.int 24)else if x=("GROUP_KINDS":Str)then !(.tup [(.str "any"),(.str "come"),(.str "row")])else none
 no:=λx=>if x=("all":Str)then true else if x=("bool":Str)then true else if x=("enumerate":Str)then true else if x=("int":Str)then true else if x=("isinstance":Str)then true else if x=("len":Str)then true else if x=("list":Str)then true else if x=("max":Str)then true else if x=("min":Str)then true else if x=("range":Str)then true else if x=("reversed":Str)then true else if x=("sorted":Str)then true else if x=("tuple":Str)then true else if x=("zip":Str)then true else false
 fl:=λC m=>if C=("Mill":Str)/\m=("passes":Str)then true else if C=("Wish":Str)/\m=("groups":Str)then true else if C=("Wish":Str)/\m=("level_letters":Str)then true else if C=("Wish":Str)/\m=("level_numbers":Str)then true else false
 mt:=λ_ _=>none
 ini:=λ_=>none
abbrev fq:Stmt:=top 15
noncomputable abbrev oQ:N8:=["value","least","most"]
noncomputable abbrev oR:N8:=["value","least","most"]
def  rT (x:Str) (st:Stmt) (ps:N8) (us:N5):Prop:=∀ (qual:Str) (kV doc pm:Value) (an:Option Addr) (cdv ct:Value),bindArgs (PySem.W.fnOf x qual (bH st) (aF st) (aj st) .none kV doc pm an cdv ct) ⟨us,[]⟩=pure (ps.zip us)
def bd1 {st} (e:ps.length=1) (h:∀u0,rT x st ps [u0]):bo x st ps:=λq k d p a c t us hl=>match us,hl.trans e with|[u0],_=>h u0 q k d p a c t
def bd2 {st} (e:ps.length=2) (h:∀u0 u1,rT x st ps [u0,u1]):bo x st ps:=λq k d p a c t us hl=>match us,hl.trans e with|[u0,u1],_=>h u0 u1 q k d p a c t
def bd3 {st} (e:ps.length=3) (h:∀u0 u1 u2,rT x st ps [u0,u1,u2]):bo x st ps:=λq k d p a c t us hl=>match us,hl.trans e with|[u0,u1,u2],_=>h u0 u1 u2 q k d p a c t
def bd4 {st} (e:ps.length=4) (h:∀u0 u1 u2 u3,rT x st ps [u0,u1,u2,u3]):bo x st ps:=λq k d p a c t us hl=>match us,hl.trans e with|[u0,u1,u2,u3],_=>h u0 u1 u2 u3 q k d p a c t
def  ay:ad:=dfn 60 0 oQ oR fq G0
def  G1:Gb:=addF G0 "is_within" 1 ay
abbrev fu:Stmt:=top 17
noncomputable abbrev oS:N8:=["pocket"]
noncomputable abbrev oT:N8:=["pocket"]
def  dc:ad:=dfn 60 1 oS oT fu G1
def  G2:Gb:=addF G1 "is_pocket" 2 dc
abbrev gU:Stmt:=top 18
noncomputable abbrev ug:N8:=["pockets","pocket"]
noncomputable abbrev uh:N8:=["pockets"]
def  iB:ad:=dfn 60 2 ug uh gU G2
def  G3:Gb:=addF G2 "is_pass" 3 iB
abbrev gj:Stmt:=top 20
noncomputable abbrev rV:N8:=["passes","product","pockets"]
noncomputable abbrev rW:N8:=["passes"]
def  bE:ad:=dfn 60 3 rV rW gj G3
def  G4:Gb:=addF G3 "codes_of" 4 bE
abbrev dX:Stmt:=top 19
noncomputable abbrev nO:N8:=["passes","pockets"]
noncomputable abbrev nQ:N8:=["passes"]
def  cg:ad:=dfn 60 4 nO nQ dX G4
def  G5:Gb:=addF G4 "are_passes" 5 cg
abbrev aT:Stmt:=jk (top 21) 0
noncomputable abbrev jQ:N8:=["self","passes","pockets"]
noncomputable abbrev eL:N8:=["self","passes"]
def jf:FnScope jQ eL (aj aT):=scB
def jS:bo "__init__" aT eL:=bd2 rfl λ_ _ _ _ _ _ _ _ _=>rfl
def  rX:Oc->Option (List (Str×D)):=gM cg
def  G6:Gb:=addI G5 "Mill" 6 rX
abbrev a8:Stmt:=jk (top 21) 1
noncomputable abbrev gX:N8:=["self"]
noncomputable abbrev dY:N8:=["self"]
def lK:FnScope gX dY (aj a8):=scB
def nR:bo "codes" a8 dY:=bd1 rfl λ_ _ _ _ _ _ _ _=>rfl
def  rY:ad:=dfn 60 6 gX dY a8 G6
def  G7:Gb:=addM G6 "codes" "Mill" 7 rY
abbrev bj:Stmt:=jk (top 21) 2
noncomputable abbrev iW:N8:=["self"]
noncomputable abbrev fw:N8:=["self"]
def nT:FnScope iW fw (aj bj):=scB
def oU:bo "many" bj fw:=bd1 rfl λ_ _ _ _ _ _ _ _=>rfl
def  ui:ad:=dfn 60 7 iW fw bj G7
def  G8:Gb:=addM G7 "many" "Mill" 8 ui
abbrev gY:Stmt:=top 22
noncomputable abbrev uj:N8:=["mill","late"]
noncomputable abbrev uk:N8:=["mill","late"]
def  dP:ad:=dfn 60 8 uj uk gY G8
def  G9:Gb:=addF G8 "is_late" 9 dP
abbrev cL:Stmt:=top 23
noncomputable abbrev kq:N8:=["mill","late"]
noncomputable abbrev kr:N8:=["mill","late"]
def  ck:ad:=dfn 60 9 kq kr cL G9
def  G10:Gb:=addF G9 "look_at_late" 10 ck
abbrev nU:Stmt:=top 24
noncomputable abbrev Cv:N8:=["kind","ahead","code"]
noncomputable abbrev Cw:N8:=["kind","ahead","code"]
def  kt:ad:=dfn 60 10 Cv Cw nU G10
def  G11:Gb:=addF G10 "laid" 11 kt
abbrev fz:Stmt:=top 25
noncomputable abbrev oV:N8:=["mill","late","code","numbers","ahead","left","pockets","number"]
noncomputable abbrev oW:N8:=["mill","late","code"]
def  b7:ad:=dfn 60 11 oV oW fz G11
def  G12:Gb:=addF G11 "code_word" 12 b7
abbrev gZ:Stmt:=top 16
noncomputable abbrev ul:N8:=["size"]
noncomputable abbrev um:N8:=["size"]
def  iC:ad:=dfn 60 12 ul um gZ G12
def  G13:Gb:=addF G12 "is_size" 13 iC
abbrev fA:Stmt:=top 28
noncomputable abbrev oX:N8:=["mill","letter"]
noncomputable abbrev oY:N8:=["mill","letter"]
def  eN:ad:=dfn 60 13 oX oY fA G13
def  G14:Gb:=addF G13 "is_letter" 14 eN
abbrev bQ:Stmt:=top 29
noncomputable abbrev iG:N8:=["mill","letters","letter"]
noncomputable abbrev iH:N8:=["mill","letters"]
def  aH:ad:=dfn 60 14 iG iH bQ G14
def  G15:Gb:=addF G14 "look_at_letters" 15 aH
abbrev hG:Stmt:=top 30
noncomputable abbrev uo:N8:=["letters","letter"]
noncomputable abbrev uq:N8:=["letters","letter"]
def  iD:ad:=dfn 60 15 uo uq hG G15
def  G16:Gb:=addF G15 "rank_of" 16 iD
abbrev cM:Stmt:=top 32
noncomputable abbrev ku:N8:=["pockets","size","ahead","sides","found","number","pocket","turn","code","side"]
noncomputable abbrev kz:N8:=["pockets","size","ahead","sides"]
def  cm:ad:=dfn 60 16 ku kz cM G16
def  G17:Gb:=addF G16 "sides_behind" 17 cm
abbrev dZ:Stmt:=top 33
noncomputable abbrev nV:N8:=["mill","size","late","ahead","sides","pockets"]
noncomputable abbrev nX:N8:=["mill","size","late"]
def  bM:ad:=dfn 60 17 nV nX dZ G17
def  G18:Gb:=addF G17 "open_sides" 18 bM
abbrev di:Stmt:=top 34
noncomputable abbrev lL:N8:=["mill","letters","letter","rank","code","side"]
noncomputable abbrev lM:N8:=["mill","letters","letter"]
def  cU:ad:=dfn 60 18 lL lM di G18
def  G19:Gb:=addF G18 "open_places" 19 cU
abbrev d4:Stmt:=top 35
noncomputable abbrev nY:N8:=["mill","letters","letter","beyond","place"]
noncomputable abbrev nZ:N8:=["mill","letters","letter","beyond"]
def  aU:ad:=dfn 60 19 nY nZ d4 G19
def  G20:Gb:=addF G19 "next_place" 20 aU
abbrev aO:Stmt:=jk (top 46) 1
noncomputable abbrev gw:N8:=["self","level"]
noncomputable abbrev dj:N8:=["self"]
def kA:FnScope gw dj (aj aO):=scB
def lN:bo "levels" aO dj:=bd1 rfl λ_ _ _ _ _ _ _ _=>rfl
def  oZ:ad:=dfn 60 20 gw dj aO G20
def  G21:Gb:=addM G20 "levels" "Wish" 21 oZ
abbrev d5:Stmt:=top 36
abbrev n5:N8:=["mill","letters","wish","plan","beyond","chain","level","places","letter","place"]
abbrev n6:N8:=["mill","letters","wish"]
def  dH:ad:=dfn 60 21 n5 n6 d5 G21
def  G22:Gb:=addF G21 "least_plan" 22 dH
abbrev gk:Stmt:=top 39
noncomputable abbrev rZ:N8:=["group","many","letter"]
noncomputable abbrev r0:N8:=["group","many"]
def  gp:ad:=dfn 60 22 rZ r0 gk G22
def  G23:Gb:=addF G22 "is_group" 23 gp
abbrev bR:Stmt:=top 40
noncomputable abbrev iI:N8:=["groups","found","kind","members"]
noncomputable abbrev iJ:N8:=["groups"]
def  aV:ad:=dfn 60 23 iI iJ bR G23
def  G24:Gb:=addF G23 "grouped_letters" 24 aV
abbrev d6:Stmt:=top 41
noncomputable abbrev n9:N8:=["groups","many","group"]
noncomputable abbrev og:N8:=["groups","many"]
def  cq:ad:=dfn 60 24 n9 og d6 G24
def  G25:Gb:=addF G24 "are_groups" 25 cq
abbrev a9:Stmt:=top 42
noncomputable abbrev kI:N8:=["letters","members"]
noncomputable abbrev fW:N8:=["letters","members"]
def jT:FnScope kI fW (aj a9):=scB
def kJ:bo "as_they_come" a9 fW:=bd2 rfl λ_ _ _ _ _ _ _ _ _=>rfl
def  cu:ad:=aC 2 2 gO
def  G26:Gb:=addF G25 "as_they_come" 26 cu
abbrev cO:Stmt:=top 43
noncomputable abbrev kK:N8:=["letters","kind","members","ordered","letter"]
noncomputable abbrev kL:N8:=["letters","kind","members"]
def  cx:ad:=dfn 60 26 kK kL cO G26
def  G27:Gb:=addF G26 "group_levels" 27 cx
abbrev fB:Stmt:=top 44
noncomputable abbrev pd:N8:=["letters","groups","found","kind","members"]
noncomputable abbrev pe:N8:=["letters","groups"]
def  de:ad:=dfn 60 27 pd pe fB G27
def  G28:Gb:=addF G27 "levels_of" 28 de
abbrev d7:Stmt:=top 45
noncomputable abbrev oh:N8:=["levels","found","number","level","letter"]
noncomputable abbrev oi:N8:=["levels"]
def  cz:ad:=dfn 60 28 oh oi d7 G28
def  G29:Gb:=addF G28 "numbers_of" 29 cz
abbrev aW:Stmt:=jk (top 46) 0
noncomputable abbrev jU:N8:=["self","letters","groups","kind","members"]
noncomputable abbrev eO:N8:=["self","letters","groups"]
def jg:FnScope jU eO (aj aW):=scB
def jV:bo "__init__" aW eO:=bd3 rfl λ_ _ _ _ _ _ _ _ _ _=>rfl
def  r6:Oc->Option (List (Str×D)):=gW (rO cz de cq)
def  G30:Gb:=addI G29 "Wish" 30 r6
abbrev cP:Stmt:=top 48
noncomputable abbrev kM:N8:=["script","k"]
noncomputable abbrev kN:N8:=["script","k"]
def  aG:ad:=dfn 60 30 kM kN cP G30
def  G31:Gb:=addF G30 "_law_cell_at" 31 aG
abbrev fC:Stmt:=top 49
noncomputable abbrev pf:N8:=["cell","at","k"]
noncomputable abbrev ph:N8:=["cell","at"]
def  bF:ad:=dfn 60 31 pf ph fC G31
def  G32:Gb:=addF G31 "_law_part" 32 bF
abbrev dk:Stmt:=top 50
noncomputable abbrev lO:N8:=["script","many","stir","cell","found","k","at"]
noncomputable abbrev lP:N8:=["script","many"]
def  cV:ad:=dfn 60 32 lO lP dk G32
def  G33:Gb:=addF G32 "_law_folded" 33 cV
abbrev dm:Stmt:=top 51
noncomputable abbrev lQ:N8:=["cell","width"]
noncomputable abbrev lR:N8:=["cell"]
def  aX:ad:=dfn 60 33 lQ lR dm G33
def  G34:Gb:=addF G33 "_law_pocket" 34 aX
abbrev dq:Stmt:=top 52
noncomputable abbrev lS:N8:=["cells","most","passes","product","t","many","j"]
noncomputable abbrev lT:N8:=["cells","most"]
def  cW:ad:=dfn 60 34 lS lT dq G34
def  G35:Gb:=addF G34 "_law_passes" 35 cW
abbrev cQ:Stmt:=top 53
noncomputable abbrev kO:N8:=["cells","at","passes","most","many","letters","k","cell","late"]
noncomputable abbrev kP:N8:=["cells","at","passes","most"]
def  cA:ad:=dfn 60 35 kO kP cQ G35
def  G36:Gb:=addF G35 "_law_letters" 36 cA
abbrev d8:Stmt:=top 54
noncomputable abbrev oj:N8:=["passes","late","found","pockets","longer","pocket","word"]
noncomputable abbrev om:N8:=["passes","late"]
def  dI:ad:=dfn 60 36 oj om d8 G36
def  G37:Gb:=addF G36 "_law_words" 37 dI
abbrev fD:Stmt:=top 55
abbrev pi:N8:=["passes","late","word","many","pockets","code","piles","t"]
noncomputable abbrev pj:N8:=["passes","late","word"]
def  eQ:ad:=dfn 60 37 pi pj fD G37
def  G38:Gb:=addF G37 "_law_code" 38 eQ
abbrev fE:Stmt:=top 56
noncomputable abbrev pv:N8:=["passes","letters","letter","found","word","size","late","code","turn","t"]
noncomputable abbrev pw:N8:=["passes","letters","letter"]
def  bG:ad:=dfn 60 38 pv pw fE G38
def  G39:Gb:=addF G38 "_law_open" 39 bG
abbrev d9:Stmt:=top 57
noncomputable abbrev oo:N8:=["cells","at","many","order","k"]
noncomputable abbrev oq:N8:=["cells","at","many"]
def  dJ:ad:=dfn 60 39 oo oq d9 G39
def  G40:Gb:=addF G39 "_law_order" 40 dJ
abbrev dt:Stmt:=top 58
noncomputable abbrev lU:N8:=["cells","at","many","groups","letter","cell"]
noncomputable abbrev lV:N8:=["cells","at","many"]
def  cX:ad:=dfn 60 40 lU lV dt G40
def  G41:Gb:=addF G40 "_law_groups" 41 cX
abbrev dA:Stmt:=top 59
noncomputable abbrev lW:N8:=["letters","groups","levels","kind","some","came","letter","pair"]
noncomputable abbrev lX:N8:=["letters","groups"]
def  cY:ad:=dfn 60 41 lW lX dA G41
def  G42:Gb:=addF G41 "_law_levels" 42 cY
abbrev dB:Stmt:=top 60
noncomputable abbrev lY:N8:=["opens","edge","place","word"]
noncomputable abbrev lZ:N8:=["opens","edge"]
def  bn:ad:=dfn 60 42 lY lZ dB G42
def  G43:Gb:=addF G42 "_law_beyond" 43 bn
abbrev eg:Stmt:=top 61
noncomputable abbrev ot:N8:=["opens","levels","plan","edge","level","later","letter","row","pair"]
noncomputable abbrev ou:N8:=["opens","levels"]
def  dL:ad:=dfn 60 43 ot ou eg G43
def  G44:Gb:=addF G43 "_law_least" 44 dL
abbrev fF:Stmt:=top 62
noncomputable abbrev pz:N8:=["opens","levels","chain","edge","last","k","at","pair","j"]
noncomputable abbrev pA:N8:=["opens","levels","chain"]
def  eS:ad:=dfn 60 44 pz pA fF G44
def  G45:Gb:=addF G44 "_law_bars" 45 eS
abbrev eh:Stmt:=top 63
abbrev ox:N8:=["found","due","opens","levels","word"]
abbrev oy:N8:=["found","due","opens","levels"]
def  dM:ad:=dfn 60 45 ox oy eh G45
def  G46:Gb:=addF G45 "_law_right" 46 dM
abbrev jW:Stmt:=top 64
abbrev xx:N8:=["script","cells","passes","letters","groups","mill","wish","opens","levels","due","handed","turn","found","letter"]
noncomputable abbrev r9:N8:=["script"]
def Cy:FnScope xx r9 (aj jW):=scB
def EV:bo "law" jW r9:=bd1 rfl λ_ _ _ _ _ _ _ _=>rfl
def  LI:ad:=dfn 60 46 xx r9 jW G46
structure Tx (K:Frag):Prop where
 v0:aN K "is_within" fq
 v1:aN K "is_pocket" fu
 v2:aN K "is_pass" gU
 v3:aN K "codes_of" gj
 v4:aN K "are_passes" dX
 v5:aN K "is_late" gY
 v6:aN K "look_at_late" cL
 v7:aN K "laid" nU
 v8:aN K "code_word" fz
 v9:aN K "is_size" gZ
 v10:aN K "is_letter" fA
 v11:aN K "look_at_letters" bQ
 v12:aN K "rank_of" hG
 v13:aN K "sides_behind" cM
 v14:aN K "open_sides" dZ
 v15:aN K "open_places" di
 v16:aN K "next_place" d4
 v17:aN K "least_plan" d5
 v18:aN K "is_group" gk
 v19:aN K "grouped_letters" bR
 v20:aN K "are_groups" d6
 v21:w4 K "as_they_come" a9 262
 v22:aN K "group_levels" cO
 v23:aN K "levels_of" fB
 v24:aN K "numbers_of" d7
 v25:aN K "_law_cell_at" cP
 v26:aN K "_law_part" fC
 v27:aN K "_law_folded" dk
 v28:aN K "_law_pocket" dm
 v29:aN K "_law_passes" dq
 v30:aN K "_law_letters" cQ
 v31:aN K "_law_words" d8
 v32:aN K "_law_code" fD
 v33:aN K "_law_open" fE
 v34:aN K "_law_order" d9
 v35:aN K "_law_groups" dt
 v36:aN K "_law_levels" dA
 v37:aN K "_law_beyond" dB
 v38:aN K "_law_least" eg
 v39:aN K "_law_bars" fF
 v40:aN K "_law_right" eh
 v41:aN K "law" jW
 bl:w5 K 262
 v42:ka K "Mill" "__init__" "Mill.__init__" aT
 v43:ka K "Mill" "codes" "Mill.codes" a8
 v44:ka K "Mill" "many" "Mill.many" bj
 v45:ka K "Wish" "levels" "Wish.levels" aO
 v46:ka K "Wish" "__init__" "Wish.__init__" aW
 v47:TCls K "Mill"
 v48:TCls K "Wish"
 v49:∃Ca,nsIn K mainGlobals "Mill"=!(!(.ref Ca))/\findIn K (.ref Ca) "passes"=!none
 v50:∃Ca,nsIn K mainGlobals "Wish"=!(!(.ref Ca))/\findIn K (.ref Ca) "groups"=!none
 v51:∃Ca,nsIn K mainGlobals "Wish"=!(!(.ref Ca))/\findIn K (.ref Ca) "level_letters"=!none
 v52:∃Ca,nsIn K mainGlobals "Wish"=!(!(.ref Ca))/\findIn K (.ref Ca) "level_numbers"=!none
 v53:∃ (a:Addr) (od:Option Addr) (n:Nat) (sl:Array (N6)) (t0:Tok) (t1:Tok),nsIn K mainGlobals "KINDS"=!(!(.ref a))/\K.lookup a=!⟨.type "tuple",od,.seq #[.str "queue" t0,.str "pile" t1] n,sl⟩
 v54:∃t,nsIn K mainGlobals "MOST_PASSES"=!(!(.int 6 t))
 v55:∃t,nsIn K mainGlobals "MOST_POCKETS"=!(!(.int 6 t))
 v56:∃t,nsIn K mainGlobals "MOST_WIDTH"=!(!(.int 9 t))
 v57:∃t,nsIn K mainGlobals "MOST_CODES"=!(!(.int 1000 t))
 v58:∃t,nsIn K mainGlobals "MOST_SIZE"=!(!(.int 9 t))
 v59:∃t,nsIn K mainGlobals "MOST_LETTERS"=!(!(.int 24 t))
 v60:∃ (a:Addr) (od:Option Addr) (n:Nat) (sl:Array (N6)) (t0:Tok) (t1:Tok) (t2:Tok),nsIn K mainGlobals "GROUP_KINDS"=!(!(.ref a))/\K.lookup a=!⟨.type "tuple",od,.seq #[.str "any" t0,.str "come" t1,.str "row" t2] n,sl⟩
 v61:nsIn K mainGlobals "all"=!none
 v62:nsIn K mainGlobals "bool"=!none
 v63:nsIn K mainGlobals "enumerate"=!none
 v64:nsIn K mainGlobals "int"=!none
 v65:nsIn K mainGlobals "isinstance"=!none
 v66:nsIn K mainGlobals "len"=!none
 v67:nsIn K mainGlobals "list"=!none
 v68:nsIn K mainGlobals "max"=!none
 v69:nsIn K mainGlobals "min"=!none
 v70:nsIn K mainGlobals "range"=!none
 v71:nsIn K mainGlobals "reversed"=!none
 v72:nsIn K mainGlobals "sorted"=!none
 v73:nsIn K mainGlobals "tuple"=!none
 v74:nsIn K mainGlobals "zip"=!none
def hV:ge ay:=tr (Bu)
def IN:Bv iC:=tr (HP hV)
def Cz:rB dc:=tr (Bw hV)
def IP:Bx iB:=tr (HQ Cz)
def se:jb bE:=tr (Eg)
def IQ:L2.sAre cg:=tr (L2.h_are IP se)
def IR:Bz rX:=HR IQ
def xy:G0.fl "Mill" "passes"=true:=by kernel_rfl
def IS:FG (G8.mt "many") 8:=λps=>by
 exact HS xy ps
def CA:wZ dP:=tr (HU IS hV)
def NA:sCM (G11.mt "codes") 11:=λps hv=>by
 exact Nw xy se hv
def EW:vG ck:=tr (Ej CA)
def CB:K21.sLetterZ eN:=tr (K21.h_letterZ CA IN)
def ur:K21.sLookZ aH:=tr (K21.h_lookZ CB)
def IT:K21.sRankZ iD:=tr (K21.h_rankZ)
def CC:p0 kt:=tr (H9)
def EX:sCW b7:=tr (EQ xy CC NA hV EW)
def CD:K21.sSidesB cm:=tr (K21.h_sidesB CC)
def EY:K21.sOpenS bM:=tr (K21.h_openS xy CD se)
def EZ:K21.sOpenP cU:=tr (K21.h_openP EY IT ur)
def IU:K21.sNext aU:=tr (K21.h_next EZ)
def E6:vL gp:=tr (EB hV)
def yT:nL aV:=tr (yK)
def IV:sAre cq:=tr (h_are yT E6)
def IW:BV cu:=tr (Ik)
def NB:sGL cx:=tr (Nr IW)
def LJ:yO de:=tr (Le NB)
def LK:Io cz:=tr (Ld)
def IX:B5 r6:=Iv LK LJ IV
def IY:BB aG:=tr (HV)
def IZ:BC bF:=tr (HW)
def CF:rD cV:=tr (K21.h_fold2 IY IZ)
def yU:nF aX:=tr (yF)
def yV:K21.sLPass40 cW:=tr (K21.h_lpass40 yU)
def yW:K21.sLettersZ cA:=tr (K21.h_lettersZ)
def E7:K21.sWordsL dI:=tr (K21.h_wordsL)
def E8:K21.sCodeL eQ:=tr (K21.h_codeL)
def E9:K21.sOpenL bG:=tr (K21.h_openL E7 E8)
def LL:IA dJ:=tr (Lk)
def LM:IC cX:=tr (Ln LL)
def I0:yO cY:=tr (IF)
def NC:sMW (G21.mt "levels") 21:=λlt gs h=>by
 exact Nz (!2) lt gs h
def ND:sLP aU b7 dH:=tr (ES NC ur)
def FR:yS bn:=tr Lw
def LN:IH dL:=tr (Lx FR)
def LO:IL eS:=tr (LD FR)
def Fa:vV dM:=tr (ET LO)
def LP:∀ns:N9,ns.length<=63->valO (LI [.lst (ns.map D.int)])=!(.bl true):=λns hn=>by
 exact tr (EU Fa ND LN I0 E9 IX IR LM yW yV CF IU EX ns hn)
def  Q:Program:={PySem.Challenge.pw_pocketmill_k22_least_plans with main:={PySem.Challenge.pw_pocketmill_k22_least_plans.main with body:=[top 0,top 2,top 3,top 4,top 5,top 6,top 7,top 9,top 10,top 11,top 12,top 13,top 14,top 15,top 16,top 17,top 18,top 19,top 20,top 21,top 22,top 23,top 24,top 25,top 27,top 28,top 29,top 30,top 32,top 33,top 34,top 35,top 36,top 38,top 39,top 40,top 41,top 42,top 43,top 44,top 45,top 46,top 48,top 49,top 50,top 51,top 52,top 53,top 54,top 55,top 56,top 57,top 58,top 59,top 60,top 61,top 62,top 63,top 64]}}
noncomputable abbrev kH (P:Params) (x:Str) (n:Nat) (v:Value):DictEntry:=⟨PyData.keyHash P x,(.str x n),v⟩
noncomputable abbrev kC (x:Str) (a:Nat) (y:Str) (b c:Nat) (i j k l m:Int) (r:Nat) (n:Int) (p:Nat) (v q s t:Value) (u w:Int) (d:Nat):Obj:=⟨(.type "code"),none,(.fields #[(.str x a),(.str y b),(.str "/claim/cut.py" c),(.int i 0),(.int j 0),(.int k 0),(.int l 0),(.int m 0),(.ref r),(.bool true),(.int n 0),(.ref p),v,q,s,t,(.int u 0),(.int w 0),(.str "/claim/cut.py" d)]),#[]⟩
abbrev kF (x y:Str) (st:Stmt) (z:Str) (n r:Nat):Obj:=⟨(.type "function"),none,(.func (PySem.W.fnOf x y (bH st) (aF st) (aj st) .none .none .none (.str z n) none (.ref r) .none)),#[]⟩
def tdG {K} {st} (f:Addr) (z:Str) (n c:Nat) (a:(nsIn K mainGlobals x,K.lookup f,PySem.W.codeIn K (.ref c) x,PySem.W.keepIn K (.ref f))=(!(!(.ref f)),!⟨.type "function",none,.func (PySem.W.fnOf x x (bH st) (aF st) (aj st) .none .none .none (.str z n) none (.ref c) .none),#[]⟩,true,true):=by kernel_rfl):aN K x st:=by
 simp only[Prod.mk.injEq]at a;exact Nn a.1 a.2.1 a.2.2.1 a.2.2.2
noncomputable abbrev mN0:Str:="law_pocketmill_k22_least_plans"
noncomputable abbrev mN1:Str:="pocketmill.least"
noncomputable abbrev mN2:Str:="pocketmill.mills"
noncomputable abbrev mN3:Str:="pocketmill.trays"
noncomputable abbrev mN4:Str:="pocketmill.wishes"
abbrev kD (x:Str) (a:Nat) (i j:Int) (r:Nat) (e:Int):Obj:=kC x a x (a+1) (a+2) i j 0 0 3 r 181 (r+1) .none (.ref (r+2)) (.ref (r+3)) (.ref (r+4)) e i (e+1).toNat
abbrev kE (x:Str) (a:Nat) (i j:Int) (r:Nat) (e:Int):Obj:=kC x a x (a+1) (a+2) i j 0 0 3 r 181 (r+1) .none .none .none (.ref (r+2)) e i (e+1).toNat
abbrev kG (x:Str) (st:Stmt) (z:Str) (n r:Nat):Obj:=kF x x st z n r
def  KK (P:Params):Frag:=[(2,⟨.none,none,(.dict #[] 0),#[]⟩),
 (3,⟨(.type "dict"),none,(.dict #[(kH P "__name__" 165 (.str "law_pocketmill_k22_least_plans" 642)),(kH P "__doc__" 166 .none),(kH P "__package__" 167 .none),(kH P "__loader__" 168 (.builtin "__main__.__loader__#opaque")),(kH P "__spec__" 169 .none),(kH P "__annotations__" 170 (.ref 6)),(kH P "__builtins__" 171 (.ref 4)),(kH P "__file__" 173 (.str "/claim/cut.py" 172)),(kH P "__cached__" 174 .none),(kH P "_wall" 193 (.ref 21)),(kH P "MillError" 213 (.ref 31)),(kH P "BadMill" 229 (.ref 44)),(kH P "BadLate" 245 (.ref 56)),(kH P "BadCode" 261 (.ref 68)),(kH P "BadLetters" 277 (.ref 80)),(kH P "BadWish" 293 (.ref 92)),(kH P "KINDS" 298 (.ref 95)),(kH P "MOST_PASSES" 300 (.int 6 299)),(kH P "MOST_POCKETS" 302 (.int 6 301)),(kH P "MOST_WIDTH" 304 (.int 9 303)),(kH P "MOST_CODES" 306 (.int 1000 305)),(kH P "MOST_SIZE" 308 (.int 9 307)),(kH P "is_within" 317 (.ref 102)),(kH P "is_size" 324 (.ref 109)),(kH P "is_pocket" 331 (.ref 116)),(kH P "is_pass" 337 (.ref 121)),(kH P "are_passes" 343 (.ref 126)),(kH P "codes_of" 352 (.ref 133)),(kH P "Mill" 393 (.ref 162)),(kH P "is_late" 401 (.ref 173)),(kH P "look_at_late" 409 (.ref 180)),(kH P "laid" 418 (.ref 187)),(kH P "code_word" 432 (.ref 194)),(kH P "MOST_LETTERS" 436 (.int 24 435)),(kH P "is_letter" 444 (.ref 201)),(kH P "look_at_letters" 450 (.ref 206)),(kH P "rank_of" 458 (.ref 213)),(kH P "sides_behind" 466 (.ref 218)),(kH P "open_sides" 478 (.ref 225)),(kH P "open_places" 484 (.ref 230)),(kH P "next_place" 495 (.ref 237)),(kH P "least_plan" 501 (.ref 242)),(kH P "GROUP_KINDS" 507 (.ref 243)),(kH P "is_group" 513 (.ref 248)),(kH P "grouped_letters" 523 (.ref 255)),(kH P "are_groups" 529 (.ref 260)),(kH P "as_they_come" 538 (.ref 267)),(kH P "group_levels" 544 (.ref 272)),(kH P "levels_of" 555 (.ref 279)),(kH P "numbers_of" 566 (.ref 286)),(kH P "Wish" 641 (.ref 341)),(kH P "_law_cell_at" 651 (.ref 352)),(kH P "_law_part" 660 (.ref 359)),(kH P "_law_folded" 666 (.ref 364)),(kH P "_law_pocket" 674 (.ref 371)),(kH P "_law_passes" 680 (.ref 376)),(kH P "_law_letters" 695 (.ref 383)),(kH P "_law_words" 701 (.ref 388)),(kH P "_law_code" 715 (.ref 395)),(kH P "_law_open" 721 (.ref 400)),(kH P "_law_order" 732 (.ref 407)),(kH P "_law_groups" 744 (.ref 414)),(kH P "_law_levels" 750 (.ref 419)),(kH P "_law_beyond" 760 (.ref 426)),(kH P "_law_least" 766 (.ref 431)),(kH P "_law_bars" 772 (.ref 436)),(kH P "_law_right" 778 (.ref 441)),(kH P "law" 784 (.ref 446))] 68),#[]⟩),
 (4,⟨(.type "module"),(some 0),.plain,#[]⟩),
 (95,⟨(.type "tuple"),none,(.seq #[(.str "queue" 296),(.str "pile" 297)] 0),#[]⟩),
 (101,(kD "is_within" 309 24 3 96 315)),
 (102,(kG "is_within" fq mN2 294 101)),
 (108,(kD "is_size" 318 26 1 103 322)),
 (109,(kG "is_size" gZ mN2 294 108)),
 (115,(kD "is_pocket" 325 28 1 110 329)),
 (116,(kG "is_pocket" fu mN2 294 115)),
 (120,(kE "is_pass" 332 32 1 117 335)),
 (121,(kG "is_pass" gU mN2 294 120)),
 (125,(kE "are_passes" 338 36 1 122 341)),
 (126,(kG "are_passes" dX mN2 294 125)),
 (132,(kD "codes_of" 344 40 1 127 350)),
 (133,(kG "codes_of" gj mN2 294 132)),
 (144,(kC "__init__" 365 "Mill.__init__" 366 367 47 2 0 0 3 141 181 142 .none .none .none (.ref 143) 368 47 369)),
 (145,(kF "__init__" "Mill.__init__" aT mN2 294 144)),
 (151,(kC "codes" 371 "Mill.codes" 372 373 52 1 0 0 3 146 181 147 .none (.ref 148) (.ref 149) (.ref 150) 375 52 376)),
 (152,(kF "codes" "Mill.codes" a8 mN2 294 151)),
 (158,(kC "many" 378 "Mill.many" 379 380 55 1 0 0 3 153 181 154 .none (.ref 155) (.ref 156) (.ref 157) 382 55 383)),
 (159,(kF "many" "Mill.many" bj mN2 294 158)),
 (160,⟨(.type "tuple"),none,(.seq #[(.str "passes" 385)] 0),#[]⟩),
 (161,⟨(.type "dict"),none,(.dict #[(kH P "__module__" 360 (.str "pocketmill.mills" 294)),(kH P "__firstlineno__" 364 (.int 45 363)),(kH P "__init__" 370 (.ref 145)),(kH P "codes" 377 (.ref 152)),(kH P "many" 384 (.ref 159)),(kH P "__static_attributes__" 386 (.ref 160)),(kH P "__dict__" 388 (.ref 163)),(kH P "__weakref__" 390 (.ref 164)),(kH P "__doc__" 391 .none)] 4),#[]⟩),
 (162,⟨(.type "type"),none,(.cls ⟨"Mill",[(.type "object")],[(.ref 162),(.type "object")],161,"Mill",true,[],[],false,none,false⟩),#[none,none,(!(.str "Mill" 353)),(!(.str "Mill" 361)),(!(.builtin "object.__new__")),(!(.bool true))]⟩),
 (163,⟨(.type "getset_descriptor"),none,(.fields #[(.str "__dict__" 387),(.ref 162),(.builtin "function.__dict__"),(.builtin "function.__dict__#set")]),#[]⟩),
 (164,⟨(.type "getset_descriptor"),none,(.fields #[(.str "__weakref__" 389),(.ref 162),(.builtin "ExceptionGroup.__weakref__"),.none]),#[]⟩),
 (172,(kD "is_late" 394 57 2 167 399)),
 (173,(kG "is_late" gY mN2 294 172)),
 (179,(kD "look_at_late" 402 59 2 174 407)),
 (180,(kG "look_at_late" cL mN2 294 179)),
 (186,(kD "laid" 410 62 3 181 416)),
 (187,(kG "laid" nU mN2 294 186)),
 (193,(kD "code_word" 419 64 3 188 430)),
 (194,(kG "code_word" fz mN2 294 193)),
 (200,(kD "is_letter" 437 81 2 195 442)),
 (201,(kG "is_letter" fA mN3 433 200)),
 (205,(kE "look_at_letters" 445 85 2 202 448)),
 (206,(kG "look_at_letters" bQ mN3 433 205)),
 (212,(kD "rank_of" 451 90 2 207 456)),
 (213,(kG "rank_of" hG mN3 433 212)),
 (217,(kE "sides_behind" 461 93 4 214 464)),
 (218,(kG "sides_behind" cM mN1 459 217)),
 (224,(kD "open_sides" 467 100 3 219 476)),
 (225,(kG "open_sides" dZ mN1 459 224)),
 (229,(kE "open_places" 479 107 3 226 482)),
 (230,(kG "open_places" di mN1 459 229)),
 (236,(kD "next_place" 485 111 4 231 493)),
 (237,(kG "next_place" d4 mN1 459 236)),
 (241,(kE "least_plan" 496 116 3 238 499)),
 (242,(kG "least_plan" d5 mN1 459 241)),
 (243,⟨(.type "tuple"),none,(.seq #[(.str "any" 504),(.str "come" 505),(.str "row" 506)] 0),#[]⟩),
 (247,(kE "is_group" 508 132 2 244 511)),
 (248,(kG "is_group" gk mN4 502 247)),
 (254,(kD "grouped_letters" 514 138 1 249 521)),
 (255,(kG "grouped_letters" bR mN4 502 254)),
 (259,(kE "are_groups" 524 143 2 256 527)),
 (260,(kG "are_groups" d6 mN4 502 259)),
 (266,(kD "as_they_come" 530 147 2 261 536)),
 (267,(kG "as_they_come" a9 mN4 502 266)),
 (271,(kE "group_levels" 539 149 3 268 542)),
 (272,(kG "group_levels" cO mN4 502 271)),
 (278,(kD "levels_of" 545 154 2 273 553)),
 (279,(kG "levels_of" fB mN4 502 278)),
 (285,(kD "numbers_of" 556 159 1 280 564)),
 (286,(kG "numbers_of" d7 mN4 502 285)),
 (297,(kC "__init__" 579 "Wish.__init__" 580 581 167 3 0 0 3 294 181 295 .none .none .none (.ref 296) 582 167 583)),
 (298,(kF "__init__" "Wish.__init__" aW mN4 502 297)),
 (302,(kC "levels" 585 "Wish.levels" 586 587 174 1 0 0 3 299 181 300 .none .none .none (.ref 301) 588 174 589)),
 (303,(kF "levels" "Wish.levels" aO mN4 502 302)),
 (309,(kC "level_of" 591 "Wish.level_of" 592 593 177 2 0 0 3 304 181 305 .none (.ref 306) (.ref 307) (.ref 308) 596 177 597)),
 (316,(kC "behind" 599 "Wish.behind" 600 601 180 3 0 0 3 311 181 312 .none (.ref 313) (.ref 314) (.ref 315) 605 180 606)),
 (323,(kC "breach" 608 "Wish.breach" 609 610 183 2 0 0 3 318 181 319 .none (.ref 320) (.ref 321) (.ref 322) 613 183 614)),
 (330,(kC "kept_by" 616 "Wish.kept_by" 617 618 186 2 0 0 3 325 181 326 .none (.ref 327) (.ref 328) (.ref 329) 621 186 622)),
 (337,(kC "one_order" 624 "Wish.one_order" 625 626 189 1 0 0 3 332 181 333 .none (.ref 334) (.ref 335) (.ref 336) 628 189 629)),
 (339,⟨(.type "tuple"),none,(.seq #[(.str "groups" 631),(.str "level_letters" 632),(.str "level_numbers" 633)] 0),#[]⟩),
 (340,⟨(.type "dict"),none,(.dict #[(kH P "__module__" 574 (.str "pocketmill.wishes" 502)),(kH P "__firstlineno__" 578 (.int 165 577)),(kH P "__init__" 584 (.ref 298)),(kH P "levels" 590 (.ref 303)),(kH P "level_of" 598 (.ref 310)),(kH P "behind" 607 (.ref 317)),(kH P "breach" 615 (.ref 324)),(kH P "kept_by" 623 (.ref 331)),(kH P "one_order" 630 (.ref 338)),(kH P "__static_attributes__" 634 (.ref 339)),(kH P "__dict__" 636 (.ref 342)),(kH P "__weakref__" 638 (.ref 343)),(kH P "__doc__" 639 .none)] 4),#[]⟩),
 (341,⟨(.type "type"),none,(.cls ⟨"Wish",[(.type "object")],[(.ref 341),(.type "object")],340,"Wish",true,[],[],false,none,false⟩),#[none,none,(!(.str "Wish" 567)),(!(.str "Wish" 575)),(!(.builtin "object.__new__")),(!(.bool true))]⟩),
 (342,⟨(.type "getset_descriptor"),none,(.fields #[(.str "__dict__" 635),(.ref 341),(.builtin "function.__dict__"),(.builtin "function.__dict__#set")]),#[]⟩),
 (343,⟨(.type "getset_descriptor"),none,(.fields #[(.str "__weakref__" 637),(.ref 341),(.builtin "ExceptionGroup.__weakref__"),.none]),#[]⟩),
 (351,(kD "_law_cell_at" 644 192 2 346 649)),
 (352,(kG "_law_cell_at" cP mN0 642 351)),
 (358,(kD "_law_part" 652 196 2 353 658)),
 (359,(kG "_law_part" fC mN0 642 358)),
 (363,(kE "_law_folded" 661 200 2 360 664)),
 (364,(kG "_law_folded" dk mN0 642 363)),
 (370,(kD "_law_pocket" 667 214 1 365 672)),
 (371,(kG "_law_pocket" dm mN0 642 370)),
 (375,(kE "_law_passes" 675 217 2 372 678)),
 (376,(kG "_law_passes" dq mN0 642 375)),
 (382,(kD "_law_letters" 681 227 4 377 693)),
 (383,(kG "_law_letters" cQ mN0 642 382)),
 (387,(kE "_law_words" 696 237 2 384 699)),
 (388,(kG "_law_words" d8 mN0 642 387)),
 (394,(kD "_law_code" 702 245 3 389 713)),
 (395,(kG "_law_code" fD mN0 642 394)),
 (399,(kE "_law_open" 716 258 3 396 719)),
 (400,(kG "_law_open" fE mN0 642 399)),
 (406,(kD "_law_order" 722 266 3 401 730)),
 (407,(kG "_law_order" d9 mN0 642 406)),
 (413,(kD "_law_groups" 733 271 3 408 742)),
 (414,(kG "_law_groups" dt mN0 642 413)),
 (418,(kE "_law_levels" 745 279 2 415 748)),
 (419,(kG "_law_levels" dA mN0 642 418)),
 (425,(kD "_law_beyond" 751 290 2 420 758)),
 (426,(kG "_law_beyond" dB mN0 642 425)),
 (430,(kE "_law_least" 761 295 2 427 764)),
 (431,(kG "_law_least" eg mN0 642 430)),
 (435,(kE "_law_bars" 767 309 3 432 770)),
 (436,(kG "_law_bars" fF mN0 642 435)),
 (440,(kE "_law_right" 773 324 4 437 776)),
 (441,(kG "_law_right" eh mN0 642 440)),
 (445,(kE "law" 779 332 1 442 782)),
 (446,(kG "law" jW mN0 642 445))]
def  KT (P:Params):Frag:=(262,⟨.none,none,.fields #[],#[]⟩)::KK P
noncomputable def  adr:List Addr:=[262,2,3,4,95,101,102,108,109,115,116,120,121,125,126,132,133,144,145,151,152,158,159,160,161,162,163,164,172,173,179,180,186,187,193,194,200,201,205,206,212,213,217,218,224,225,229,230,236,237,241,242,243,247,248,254,255,259,260,266,267,271,272,278,279,285,286,297,298,302,303,309,316,323,330,337,339,340,341,342,343,351,352,358,359,363,364,370,371,375,376,382,383,387,388,394,395,399,400,406,407,413,414,418,419,425,426,430,431,435,436,440,441,445,446]
def adr_ok (P:Params):adr=(KT P).map (·.1):=by kernel_rfl
noncomputable abbrev NN:Nat:=6796
noncomputable def  env0:Env:={scope:=PySem.Challenge.pw_pocketmill_k22_least_plans.main.scope,locals:=mainNs,globals:=mainNs,cells:=[],code:=(.ref 13),frame:=some 14}
def Ja:∀w:World,(PySem.W.fencedOpening treeTable PySem.Challenge.pw_pocketmill_k22_least_plans w NN).map (λs=>(s.heap,s.gens,s.drawn,s.toks))=!(PySem.W.boot_heap w.params,Array.mk [],PySem.W.boot_drawn,PySem.W.boot_toks):=PySem.W.boot_open (!2) (!5) (λs=>by kernel_rfl)
def Jb (w:World):(PySem.W.boot_heap w.params).isNs mainGlobals=true/\(PySem.W.boot_heap w.params).objs.size=11/\(PySem.W.boot_heap w.params).nsMap mainGlobals "__annotations__"=(!(.ref 6)):=⟨by kernel_rfl,by kernel_rfl,by kernel_rfl⟩
def t_A (w:World) (os:OsState):(HD.A PySem.Challenge.pw_pocketmill_k22_least_plans 11 (!(.ref 6)) 12 w os).map (·.2)=!⟨denote treeTable (HD.cd PySem.Challenge.pw_pocketmill_k22_least_plans env0),HD.cd PySem.Challenge.pw_pocketmill_k22_least_plans env0,⟨0,0,0,0⟩,[PySem.W.topFrame ⟨0,0,0,0⟩]⟩:=by kernel_rfl
def t_B (w:World) (os:OsState):(HD.B PySem.Challenge.pw_pocketmill_k22_least_plans 11 ((!(.ref 6))) env0 ⟨0,0,0,0⟩ ⟨0,0,0,0⟩ 12 1 w os).map (λr=>(r.1,r.2.2))=!(.next,HD.cd PySem.Challenge.pw_pocketmill_k22_least_plans env0,⟨0,0,0,0⟩):=by kernel_rfl
def t_T (w:World) (os:OsState):(HD.toT (HD.SB PySem.Challenge.pw_pocketmill_k22_least_plans 11 ((!(.ref 6))) env0 ⟨0,0,0,0⟩ ⟨0,0,0,0⟩ 12 1 w os)).abs=HD.SB PySem.Challenge.pw_pocketmill_k22_least_plans 11 ((!(.ref 6))) env0 ⟨0,0,0,0⟩ ⟨0,0,0,0⟩ 12 1 w os:=by kernel_rfl
def t_C (w:World) (os:OsState):(HD.C PySem.Challenge.pw_pocketmill_k22_least_plans 11 ((!(.ref 6))) env0 ⟨0,0,0,0⟩ ⟨0,0,0,0⟩ ⟨0,0,0,0⟩ 12 1 3336 w os).map (λr=>(r.1,r.2.2))=!(.next,HD.cd PySem.Challenge.pw_pocketmill_k22_least_plans env0,⟨332,0,348,15⟩):=by kernel_rfl
def t_F (w:World) (s:Shared):PySem.W.topRun treeTable PySem.Challenge.pw_pocketmill_k22_least_plans w 11 (!(.ref 6)) 2 s ⟨PySem.W.doneF .next,HD.cd PySem.Challenge.pw_pocketmill_k22_least_plans env0,⟨332,0,348,15⟩,[PySem.W.topFrame ⟨0,0,0,0⟩]⟩=!s:=by kernel_rfl
noncomputable abbrev FF (w:World) (os:OsState):Shared:=(HD.SC PySem.Challenge.pw_pocketmill_k22_least_plans 11 ((!(.ref 6))) env0 ⟨0,0,0,0⟩ ⟨0,0,0,0⟩ ⟨0,0,0,0⟩ 12 1 3336 w os).abs
abbrev XT (s:Shared):Bool:=PySem.W.xlAt Q [] s&&PySem.W.recOk PySem.Challenge.rw_pocketmill_k22_least_plans.row.records s
def NE (w:World) (os:OsState):(PySem.W.staticsOk (importedModules PySem.Challenge.pw_pocketmill_k22_least_plans.main.body) (PySem.W.boot_heap w.params) (FF w os).heap&&PySem.W.namesBound PySem.Challenge.pw_pocketmill_k22_least_plans (FF w os).heap&&PySem.W.gensDone (FF w os)&&PySem.W.laidKept (PySem.W.boot_heap w.params) (FF w os).heap)=true:=by
 rw[PySem.W.Fast.te5923862056798008813];kernel_rfl
def NF (w:World) (os:OsState):PySem.W.openSeen Q [] (importedModules PySem.Challenge.pw_pocketmill_k22_least_plans.main.body) XT true (FF w os)=PySem.W.openGood Q []:=by
 rw[PySem.W.Fast.te5923862056798008813,PySem.W.Fast.te4187177175401517315];kernel_rfl
def NG (w:World) (os:OsState):adr.map (FF w os).heap.get?=(KT w.params).map λp=>!p.2:=by kernel_rfl
def t_left:PySem.W.LeftO PySem.Challenge.pw_pocketmill_k22_least_plans Q [] XT (PySem.W.Hook.obs (PySem.W.kHook KT adr adr_ok)) (PySem.W.Hook.val (PySem.W.kHook KT adr adr_ok)) NN:=
 HD.left_of Ja Jb (HD.run_of t_A t_B t_T t_C t_F) (!5) λw os=>by rw[NE,NF];exact congrArg (λz=>(true,PySem.W.openGood Q [],z)) (NG w os)
def kQ (P:Params):w4 (KK P) "as_they_come" a9 262:=⟨267,266,(.type "function"),none,none,#[],.none,.none,(.str "pocketmill.wishes" 502),.none,by kernel_rfl,by kernel_rfl,by kernel_rfl,by kernel_rfl,by kernel_rfl⟩
def NH (P:Params):w5 (KK P) 262:=⟨4,⟨.type "module",some 0,.plain,#[]⟩,by kernel_rfl,by decide,by decide,by decide,by kernel_rfl,rfl,rfl,rfl⟩
def jY (P:Params):ka (KK P) "Mill" "__init__" "Mill.__init__" aT:=BE (Ca:=162) (f:=145) (oc:=(.type "function")) (od:=none) (an:=none) (osl:=#[]) (kV:=.none) (doc:=.none) (pm:=(.str "pocketmill.mills" 294)) (cdv:=(.ref 144)) (ct:=.none) (!2) (!2) (!2) (!2) (!2) (!2)
def oz (P:Params):ka (KK P) "Mill" "codes" "Mill.codes" a8:=BE (Ca:=162) (f:=152) (oc:=(.type "function")) (od:=none) (an:=none) (osl:=#[]) (kV:=.none) (doc:=.none) (pm:=(.str "pocketmill.mills" 294)) (cdv:=(.ref 151)) (ct:=.none) (!2) (!2) (!2) (!2) (!2) (!2)
def pB (P:Params):ka (KK P) "Mill" "many" "Mill.many" bj:=BE (Ca:=162) (f:=159) (oc:=(.type "function")) (od:=none) (an:=none) (osl:=#[]) (kV:=.none) (doc:=.none) (pm:=(.str "pocketmill.mills" 294)) (cdv:=(.ref 158)) (ct:=.none) (!2) (!2) (!2) (!2) (!2) (!2)
def l0 (P:Params):ka (KK P) "Wish" "levels" "Wish.levels" aO:=BE (Ca:=341) (f:=303) (oc:=(.type "function")) (od:=none) (an:=none) (osl:=#[]) (kV:=.none) (doc:=.none) (pm:=(.str "pocketmill.wishes" 502)) (cdv:=(.ref 302)) (ct:=.none) (!2) (!2) (!2) (!2) (!2) (!2)
def jZ (P:Params):ka (KK P) "Wish" "__init__" "Wish.__init__" aW:=BE (Ca:=341) (f:=298) (oc:=(.type "function")) (od:=none) (an:=none) (osl:=#[]) (kV:=.none) (doc:=.none) (pm:=(.str "pocketmill.wishes" 502)) (cdv:=(.ref 297)) (ct:=.none) (!2) (!2) (!2) (!2) (!2) (!2)
def l7 (P:Params):∃ (a:Addr) (od:Option Addr) (n:Nat) (sl:Array (N6)) (t0:Tok) (t1:Tok) (t2:Tok),nsIn (KK P) mainGlobals "GROUP_KINDS"=!(!(.ref a))/\(KK P).lookup a=!⟨.type "tuple",od,.seq #[.str "any" t0,.str "come" t1,.str "row" t2] n,sl⟩:=⟨243,none,0,#[],504,505,506,by kernel_rfl,by kernel_rfl⟩
def tx (P:Params):Tx (KK P):=⟨tdG 102 mN2 294 101,tdG 116 mN2 294 115,tdG 121 mN2 294 120,tdG 133 mN2 294 132,tdG 126 mN2 294 125,tdG 173 mN2 294 172,tdG 180 mN2 294 179,tdG 187 mN2 294 186,tdG 194 mN2 294 193,tdG 109 mN2 294 108,tdG 201 mN3 433 200,tdG 206 mN3 433 205,tdG 213 mN3 433 212,tdG 218 mN1 459 217,tdG 225 mN1 459 224,tdG 230 mN1 459 229,tdG 237 mN1 459 236,tdG 242 mN1 459 241,tdG 248 mN4 502 247,tdG 255 mN4 502 254,tdG 260 mN4 502 259,kQ P,tdG 272 mN4 502 271,tdG 279 mN4 502 278,tdG 286 mN4 502 285,tdG 352 mN0 642 351,tdG 359 mN0 642 358,tdG 364 mN0 642 363,tdG 371 mN0 642 370,tdG 376 mN0 642 375,tdG 383 mN0 642 382,tdG 388 mN0 642 387,tdG 395 mN0 642 394,tdG 400 mN0 642 399,tdG 407 mN0 642 406,tdG 414 mN0 642 413,tdG 419 mN0 642 418,tdG 426 mN0 642 425,tdG 431 mN0 642 430,tdG 436 mN0 642 435,tdG 441 mN0 642 440,tdG 446 mN0 642 445,NH P,jY P,oz P,pB P,l0 P,jZ P,K1 (Ca:=162) (!2) (!2) (!2) (!2) (!2) (!2) (!2),K1 (Ca:=341) (!2) (!2) (!2) (!2) (!2) (!2) (!2),tno (Ca:=162) (!2) (!2),tno (Ca:=341) (!2) (!2),tno (Ca:=341) (!2) (!2),tno (Ca:=341) (!2) (!2),K2 (a:=95) (od:=none) (n:=0) (sl:=#[]) (t0:=296) (t1:=297) (!2) (!2),yH (t:=299) (!2),yH (t:=301) (!2),yH (t:=303) (!2),yH (t:=305) (!2),yH (t:=307) (!2),yH (t:=435) (!2),l7 P,(!2),(!2),(!2),(!2),(!2),(!2),(!2),(!2),(!2),(!2),(!2),(!2),(!2),(!2)⟩
section
variable {P:Program} {w:World} {K:Frag} {mg:Str->N6} {base h:Heap}
def gF {st} (z:K.In h/\h.Ns mainGlobals mg/\Tx K) (g:GbOk P w K mg base G) (k:Nat) (t:aN K x st) (S:FnScope N ps (aj st):=by exact scB) (b:bo x st ps:=by first|exact bd1 rfl λ_ _ _ _ _ _ _ _=>rfl|exact bd2 rfl λ_ _ _ _ _ _ _ _ _=>rfl|exact bd3 rfl λ_ _ _ _ _ _ _ _ _ _=>rfl|exact bd4 rfl λ_ _ _ _ _ _ _ _ _ _ _=>rfl):GbOk P w K mg base (addF G x (k+1) (dfn 60 k N ps st G)):=g.addF (KJ g z.1 z.2.1 60 k S b t)
variable (z:K.In h/\h.Ns mainGlobals mg/\Tx K)
include z
def g0:GbOk P w K mg base G0 where
 fn:=λx k f e=>nomatch e
 cn:=λx d e=>by
  simp only[G0]at e;split at e
  .rename_i q;cases e;rw[q];exact cn_2str z.1 z.2.1 z.2.2.v53
  split at e
  .rename_i q;cases e;rw[q];exact cn_int z.1 z.2.1 z.2.2.v54
  split at e
  .rename_i q;cases e;rw[q];exact cn_int z.1 z.2.1 z.2.2.v55
  split at e
  .rename_i q;cases e;rw[q];exact cn_int z.1 z.2.1 z.2.2.v56
  split at e
  .rename_i q;cases e;rw[q];exact cn_int z.1 z.2.1 z.2.2.v57
  split at e
  .rename_i q;cases e;rw[q];exact cn_int z.1 z.2.1 z.2.2.v58
  split at e
  .rename_i q;cases e;rw[q];exact cn_int z.1 z.2.1 z.2.2.v59
  split at e
  .rename_i q;cases e;rw[q];exact cn_3str z.1 z.2.1 z.2.2.v60
  cases e
 no:=λx e=>by
  dsimp only[G0]at e;by_cases q:x=("all":Str)
  .rw[q];exact PySem.W.mg_none_of z.1 z.2.1 z.2.2.v61
  rw[if_neg q]at e;clear q;by_cases q:x=("bool":Str)
  .rw[q];exact PySem.W.mg_none_of z.1 z.2.1 z.2.2.v62
  rw[if_neg q]at e;clear q;by_cases q:x=("enumerate":Str)
  .rw[q];exact PySem.W.mg_none_of z.1 z.2.1 z.2.2.v63
  rw[if_neg q]at e;clear q;by_cases q:x=("int":Str)
  .rw[q];exact PySem.W.mg_none_of z.1 z.2.1 z.2.2.v64
  rw[if_neg q]at e;clear q;by_cases q:x=("isinstance":Str)
  .rw[q];exact PySem.W.mg_none_of z.1 z.2.1 z.2.2.v65
  rw[if_neg q]at e;clear q;by_cases q:x=("len":Str)
  .rw[q];exact PySem.W.mg_none_of z.1 z.2.1 z.2.2.v66
  rw[if_neg q]at e;clear q;by_cases q:x=("list":Str)
  .rw[q];exact PySem.W.mg_none_of z.1 z.2.1 z.2.2.v67
  rw[if_neg q]at e;clear q;by_cases q:x=("max":Str)
  .rw[q];exact PySem.W.mg_none_of z.1 z.2.1 z.2.2.v68
  rw[if_neg q]at e;clear q;by_cases q:x=("min":Str)
  .rw[q];exact PySem.W.mg_none_of z.1 z.2.1 z.2.2.v69
  rw[if_neg q]at e;clear q;by_cases q:x=("range":Str)
  .rw[q];exact PySem.W.mg_none_of z.1 z.2.1 z.2.2.v70
  rw[if_neg q]at e;clear q;by_cases q:x=("reversed":Str)
  .rw[q];exact PySem.W.mg_none_of z.1 z.2.1 z.2.2.v71
  rw[if_neg q]at e;clear q;by_cases q:x=("sorted":Str)
  .rw[q];exact PySem.W.mg_none_of z.1 z.2.1 z.2.2.v72
  rw[if_neg q]at e;clear q;by_cases q:x=("tuple":Str)
  .rw[q];exact PySem.W.mg_none_of z.1 z.2.1 z.2.2.v73
  rw[if_neg q]at e;clear q;by_cases q:x=("zip":Str)
  .rw[q];exact PySem.W.mg_none_of z.1 z.2.1 z.2.2.v74
  rw[if_neg q]at e;clear q;cases e
 fl:=λC m Ca e hc=>by
  simp only[G0]at e;split at e
  .rename_i q;rw[q.1]at hc;exact⟨mm z.2.2.v47 hc,fl_one z.2.2.v49 q.2 Ca hc⟩
  split at e
  .rename_i q;rw[q.1]at hc;exact⟨mm z.2.2.v48 hc,fl_one z.2.2.v50 q.2 Ca hc⟩
  split at e
  .rename_i q;rw[q.1]at hc;exact⟨mm z.2.2.v48 hc,fl_one z.2.2.v51 q.2 Ca hc⟩
  split at e
  .rename_i q;rw[q.1]at hc;exact⟨mm z.2.2.v48 hc,fl_one z.2.2.v52 q.2 Ca hc⟩
  cases e
 mt:=λm C k f e=>nomatch e
 ini:=λC k g e=>nomatch e
def g1:GbOk P w K mg base G1:=gF z (g0 z) 0 z.2.2.v0
def g2:GbOk P w K mg base G2:=gF z (g1 z) 1 z.2.2.v1
def g3:GbOk P w K mg base G3:=gF z (g2 z) 2 z.2.2.v2
def g4:GbOk P w K mg base G4:=gF z (g3 z) 3 z.2.2.v3
def g5:GbOk P w K mg base G5:=gF z (g4 z) 4 z.2.2.v4
def g6:GbOk P w K mg base G6:=by
 have g:GbOk P w K mg base G5:=g5 z;exact g.addI (Fw g z.1 z.2.1 60 5 (G0.fl "Mill") jf jS z.2.2.v47 z.2.2.v42 (λf e=>by
  simp only[G0]at e;split at e
  .rename_i q;exact fl_one z.2.2.v49 q.2
  cases e) (λds r hr y=>by
  exact vF ds r hr y))
def g7:GbOk P w K mg base G7:=by
 have g:GbOk P w K mg base G6:=g6 z;exact g.addM (Bi g 60 6 lK nR z.2.2.v47 z.2.2.v43)
def g8:GbOk P w K mg base G8:=by
 have g:GbOk P w K mg base G7:=g7 z;exact g.addM (Bi g 60 7 nT oU z.2.2.v47 z.2.2.v44)
def g9:GbOk P w K mg base G9:=gF z (g8 z) 8 z.2.2.v5
def g10:GbOk P w K mg base G10:=gF z (g9 z) 9 z.2.2.v6
def g11:GbOk P w K mg base G11:=gF z (g10 z) 10 z.2.2.v7
def g12:GbOk P w K mg base G12:=gF z (g11 z) 11 z.2.2.v8
def g13:GbOk P w K mg base G13:=gF z (g12 z) 12 z.2.2.v9
def g14:GbOk P w K mg base G14:=gF z (g13 z) 13 z.2.2.v10
def g15:GbOk P w K mg base G15:=gF z (g14 z) 14 z.2.2.v11
def g16:GbOk P w K mg base G16:=gF z (g15 z) 15 z.2.2.v12
def g17:GbOk P w K mg base G17:=gF z (g16 z) 16 z.2.2.v13
def g18:GbOk P w K mg base G18:=gF z (g17 z) 17 z.2.2.v14
def g19:GbOk P w K mg base G19:=gF z (g18 z) 18 z.2.2.v15
def g20:GbOk P w K mg base G20:=gF z (g19 z) 19 z.2.2.v16
def g21:GbOk P w K mg base G21:=by
 have g:GbOk P w K mg base G20:=g20 z;exact g.addM (Bi g 60 20 kA lN z.2.2.v48 z.2.2.v45)
def g22:GbOk P w K mg base G22:=gF z (g21 z) 21 z.2.2.v17
def g23:GbOk P w K mg base G23:=gF z (g22 z) 22 z.2.2.v18
def g24:GbOk P w K mg base G24:=gF z (g23 z) 23 z.2.2.v19
def g25:GbOk P w K mg base G25:=gF z (g24 z) 24 z.2.2.v20
def g26:GbOk P w K mg base G26:=by
 have g:GbOk P w K mg base G25:=g25 z;exact g.addF (Et g z.1 z.2.1 25 148 jT kJ z.2.2.v21 z.2.2.bl (!2) rfl (!5) (!2) (!2) (!2) (!2))
def g27:GbOk P w K mg base G27:=gF z (g26 z) 26 z.2.2.v22
def g28:GbOk P w K mg base G28:=gF z (g27 z) 27 z.2.2.v23
def g29:GbOk P w K mg base G29:=gF z (g28 z) 28 z.2.2.v24
def g30:GbOk P w K mg base G30:=by
 have g:GbOk P w K mg base G29:=g29 z;exact g.addI (Fw g z.1 z.2.1 60 29 (G0.fl "Wish") jg jV z.2.2.v48 z.2.2.v46 (λf e=>by
  simp only[G0]at e;split at e
  .rename_i q;exact absurd q.1 (!5)
  split at e
  .rename_i q;exact fl_one z.2.2.v50 q.2
  split at e
  .rename_i q;exact fl_one z.2.2.v51 q.2
  split at e
  .rename_i q;exact fl_one z.2.2.v52 q.2
  cases e) (λds r hr y=>by
  exact Iu hr y))
def g31:GbOk P w K mg base G31:=gF z (g30 z) 30 z.2.2.v25
def g32:GbOk P w K mg base G32:=gF z (g31 z) 31 z.2.2.v26
def g33:GbOk P w K mg base G33:=gF z (g32 z) 32 z.2.2.v27
def g34:GbOk P w K mg base G34:=gF z (g33 z) 33 z.2.2.v28
def g35:GbOk P w K mg base G35:=gF z (g34 z) 34 z.2.2.v29
def g36:GbOk P w K mg base G36:=gF z (g35 z) 35 z.2.2.v30
def g37:GbOk P w K mg base G37:=gF z (g36 z) 36 z.2.2.v31
def g38:GbOk P w K mg base G38:=gF z (g37 z) 37 z.2.2.v32
def g39:GbOk P w K mg base G39:=gF z (g38 z) 38 z.2.2.v33
def g40:GbOk P w K mg base G40:=gF z (g39 z) 39 z.2.2.v34
def g41:GbOk P w K mg base G41:=gF z (g40 z) 40 z.2.2.v35
def g42:GbOk P w K mg base G42:=gF z (g41 z) 41 z.2.2.v36
def g43:GbOk P w K mg base G43:=gF z (g42 z) 42 z.2.2.v37
def g44:GbOk P w K mg base G44:=gF z (g43 z) 43 z.2.2.v38
def g45:GbOk P w K mg base G45:=gF z (g44 z) 44 z.2.2.v39
def g46:GbOk P w K mg base G46:=gF z (g45 z) 45 z.2.2.v40
end
def fin {K} (X:K.In h) (hN:h.Ns mainGlobals mg) (hfa:mg "law"=!(.ref fa)) (T:Tx K):
  ∃fd:FuncData,(∀ (s:Shared) (v:Value),BindsTo s fd ⟨[v],[]⟩ [("script",v)])/\∀base:Heap,K.In base->base.Ns mainGlobals mg->FnOk P w K mg base CX0 47 fa fd ["script"] (spL K):=
 Ia 60 46 X hN hfa Cy EV T.v41 (λbase KB hB=>g46 ⟨KB,hB,T⟩) LP
end K16
open PySem PySem.W PyProof.Rows
set_option maxRecDepth 100000 in
set_option maxHeartbeats 0 in
theorem PySem.Challenge.cw_pocketmill_k22_least_plans_holds : PySem.Challenge.rw_pocketmill_k22_least_plans.Holds := by
  refine holds_law (!2) fun said=>?_
  refine holds_open (q:=K16.Q) (loose:=[]) (Xt:=K16.XT) (XP:=XL K16.Q []) (Yf:=Hook.obs (kHook K16.KT K16.adr K16.adr_ok)) (Ya:=Hook.val (kHook K16.KT K16.adr K16.adr_ok)) (YP:=Hook.says (kHook K16.KT K16.adr K16.adr_ok)) (N:=K16.NN) K16.t_left (Hook.of _) (Hook.keeps _) (fun s e=>xl_of s (Bool.and_eq_true_iff.mp e).1) XL.keeps (by rfl) (by rfl) (by rfl) (fun s e=>recFacts_of (Bool.and_eq_true_iff.mp e).2) (by rfl) (by first | assumption | decide +kernel) (by decide +kernel) ⟨rfl,rfl,rfl,rfl,rfl,by decide +kernel⟩ ?hw ?hc
  case hw=>w_witness2
  case hc =>
  refine L2.walkL (l:=PySem.Challenge.rw_pocketmill_k22_least_plans) (k:=47) rfl rfl ⟨rfl,by decide,by decide⟩ (K:=K16.KK) (fun w h ρ=>(L2.cons_in (!2) (PySem.W.kIn_of ρ)).1) (fun w h ρ=>L2.tabs_of (c0:=266) rfl (!2) (L2.cons_in (!2) (PySem.W.kIn_of ρ)).1 (L2.cons_in (!2) (PySem.W.kIn_of ρ)).2 (!2)) ?F
  case F =>
  intro w mg fa h KX G hmg
  exact K16.fin KX G hmg (K16.tx w.params)
#print axioms PySem.Challenge.cw_pocketmill_k22_least_plans_holds
