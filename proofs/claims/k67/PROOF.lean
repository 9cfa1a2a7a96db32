import PyProof.Rows.All
import Wide.All
import OpenK.AllK
import Wide.FinOn
import Lean
import PyProof.EqAt
import PyProof.EqKinds
import PyProof.TupleCall
import PyProof.NeKinds
import PyProof.ListMulAny
import PyProof.Rows.CallKwBuiltin
import PyProof.MinMaxWalk
import PyProof.SeqI3
import PyProof.Rows.TupAdd
import PyProof.MeetsDict
import PyProof.DictList
import PyProof.ZipIter
import PyProof.Rows.ZipGen
import PyProof.ListRange
import PyProof.TupleOfStr
import PyProof.Rows.FStr
import PyProof.Rows.StrJoin2
import PyProof.Rows.Range3
import PyProof.EnumMake
import PyProof.EnumFor
import PyProof.EnumStmt
import KE.KUnpackStar
import KE.KDictList
import PyProof.Rows.SortWalk
import KE.RegKIsAll
import PyProof.NsDelKeeps
import PyProof.Rows.CountFlat
import KE.KRevIter
import PyProof.Draws
import PyProof.ExcInit
import PyProof.InstStoreFacts
import PyProof.DictCompW
import PyProof.DictIter
import PyProof.DictWalks
import PyProof.Rows.SetFrom
import PyProof.SetRoads
import KE.KDictOf
import PyProof.Rows.SortShellK
import PySem.Challenge.RW_fewjoins_k67_the_bound
set_option Elab.async false
set_option linter.all false
set_option maxRecDepth 100000
namespace L2
open PySem PySem.Spec PyProof.Rows
abbrev Key:=Sum Int Str
def r0o:Key->Value->Bool
 | .inl k,v=>Value.isInt k v
 | .inr x,v=>Value.isStrOf x v
def keyH (w:World):Key->Int
 | .inl k=>hashInt k
 | .inr x=>hashStr w x
theorem b0p:∀ {k:Key} {v:Value},r0o k v=true->(∃i t,k=Sum.inl i/\v=Value.int i t)∨(∃x t,k=Sum.inr x/\v=Value.str x t)
 | .inl i,v,h=>by
  obtain⟨t,e⟩:=Value.isInt_shape (k:=i) (v:=v) h
  exact .inl ⟨i,t,rfl,e⟩
 | .inr x,v,h=>by
  obtain⟨t,e⟩:=Value.isStrOf_shape (x:=x) (v:=v) h
  exact .inr ⟨x,t,rfl,e⟩
theorem u0a (i:Int)(t:Tok):r0o (.inl i) (.int i t)=true:=by simp[r0o,Value.isInt]
theorem t0z (x:Str)(t:Tok):r0o (.inr x) (.str x t)=true:=by simp[r0o,Value.isStrOf]
theorem c1q (a b:Int):decide ((Sum.inl a:Key)=Sum.inl b)=(a==b):=by
 by_cases e:a=b
 ·subst e;simp
 ·have h:¬(Sum.inl a:Key)=Sum.inl b:=fun q=>e (Sum.inl.inj q)
  rw[decide_eq_false h]
  exact(beq_eq_false_iff_ne.mpr e).symm
theorem c1n (a b:Str):decide ((Sum.inr a:Key)=Sum.inr b)=decide (a=b):=by
 by_cases e:a=b
 ·subst e;simp
 ·have h:¬(Sum.inr a:Key)=Sum.inr b:=fun q=>e (Sum.inr.inj q)
  rw[decide_eq_false h,decide_eq_false e]
theorem c1p (a:Int)(b:Str):decide ((Sum.inl a:Key)=Sum.inr b)=false:=decide_eq_false (fun q=>nomatch q)
theorem c1o (a:Str)(b:Int):decide ((Sum.inr a:Key)=Sum.inl b)=false:=decide_eq_false (fun q=>nomatch q)
def c0a (prog:Program)(w:World):PySem.KeyKind prog w Key where
 is:=r0o
 hash:=keyH w
 inj:=fun v a b ha hb=>by
  rcases b0p ha with⟨i,t,rfl,rfl⟩ | ⟨x,t,rfl,rfl⟩
  ·rcases b0p hb with⟨j,u,rfl,e⟩ | ⟨y,u,rfl,e⟩
   ·injection e with e1 _;rw[e1]
   ·exact nomatch e
  ·rcases b0p hb with⟨j,u,rfl,e⟩ | ⟨y,u,rfl,e⟩
   ·exact nomatch e
   ·injection e with e1 _;rw[e1]
 byValue:=fun k v h=>by
  rcases b0p h with⟨i,t,rfl,rfl⟩ | ⟨x,t,rfl,rfl⟩ <;> rfl
 pyHash:=fun hv h=>by
  rcases b0p hv with⟨i,t,rfl,rfl⟩ | ⟨x,t,rfl,rfl⟩
  ·exact wpAny_pyHash_int h
  ·exact wpAny_pyHash_str h
 eqBool:=fun hu hv h=>by
  rcases b0p hu with⟨i,t,rfl,rfl⟩ | ⟨x,t,rfl,rfl⟩
  ·rcases b0p hv with⟨j,u,rfl,rfl⟩ | ⟨y,u,rfl,rfl⟩
   ·rw[c1q]at h;exact wpAny_eqBool_int h
   ·rw[c1p]at h;exact SeqAt.EqAt.int_str i t y u _ _ _ _ h
  ·rcases b0p hv with⟨j,u,rfl,rfl⟩ | ⟨y,u,rfl,rfl⟩
   ·rw[c1o]at h;exact SeqAt.EqAt.str_int x t j u _ _ _ _ h
   ·rw[c1n]at h;exact wpAny_eqBool_str h
 «strs»:=fun k x t v h=>by
  rcases b0p h with⟨i,u,rfl,e⟩ | ⟨y,u,rfl,e⟩
  ·exact nomatch e
  ·injection e with e1 _
   subst e1
   cases v <;> rfl
theorem p0a (prog:Program)(w:World)(i:Int)(t:Tok):(c0a prog w).is (.inl i) (.int i t)=true:=u0a i t
theorem o0z (prog:Program)(w:World)(x:Str)(t:Tok):(c0a prog w).is (.inr x) (.str x t)=true:=t0z x t
inductive V where
 | non | bl (b:Bool) | int (i:Int) | str (x:Str) | byt (b:Array UInt8) | flt (b:UInt64) | ref (a:Addr) | ty (n:String)
 deriving DecidableEq
def RelV:V->Value->Prop
 | .non,u=>u=Value.none
 | .bl b,u=>u=Value.bool b
 | .int i,u=>∃t,u=Value.int i t
 | .str x,u=>∃t,u=Value.str x t
 | .byt b,u=>∃t,u=Value.bytes b t
 | .flt b,u=>∃t,u=Value.float b t
 | .ref a,u=>u=Value.ref a
 | .ty n,u=>u=Value.type n
abbrev Vals:List V->List Value->Prop:=Paired RelV
theorem Vals.length {xs:List V}{us:List Value}(r:Vals xs us):xs.length=us.length:=Paired.length r
theorem Vals.get:∀ {xs:List V} {us:List Value} {i:Nat} {x:V},Vals xs us->xs[i]? = some x->∃u,us[i]? = some u/\RelV x u
 | _,_,_,_,.nil,e=>by simp at e
 | _,_,0,_,.cons r _,e=>by simp at e;subst e;exact⟨_,rfl,r⟩
 | _,_,i+1,x,.cons _ t,e=>by
  obtain⟨u,h1,h2⟩:=Vals.get (i:=i) (x:=x) t (by simpa using e)
  exact⟨u,by simpa using h1,h2⟩
theorem Vals.append:∀ {xs ys:List V} {us ws:List Value},Vals xs us->Vals ys ws->Vals (xs++ys) (us++ws)
 | _,_,_,_,.nil,s=>s
 | _,_,_,_,.cons r t,s=>.cons r (Vals.append t s)
theorem Vals.take:∀ {xs:List V} {us:List Value} (n:Nat),Vals xs us->Vals (xs.take n) (us.take n)
 | _,_,0,_=>.nil
 | _,_,_+1,.nil=>.nil
 | _,_,n+1,.cons r t=>.cons r (Vals.take n t)
theorem Vals.drop:∀ {xs:List V} {us:List Value} (n:Nat),Vals xs us->Vals (xs.drop n) (us.drop n)
 | _,_,0,r=>r
 | _,_,_+1,.nil=>.nil
 | _,_,n+1,.cons _ t=>Vals.drop n t
def RelO:Option V->Option Value->Prop
 | some v,some u=>RelV v u
 | none,none=>True
 | _,_=>False
def KV {κ:Type}:List (κ×V)->List (κ×Value)->Prop:=Paired fun(p:κ×V) (q:κ×Value)=>p.1=q.1/\RelV p.2 q.2
def kV:Key->V
 | .inl i=>.int i
 | .inr x=>.str x
inductive HO where
 | lst (xs:List V)
 | tup (xs:List V)
 | dK (kvs:List (Key×V)) | dT (kvs:List (List Key×V))
 | set (S:Int->Bool) (n:Nat)
 | ins (C dx:Addr) (fs:List (Str×V))
 | own (x:Addr)
 | xd (fs:List (Str×V))
 | met (f x:Addr)
 | rng (lo hi:Int)
 | frz (o:Obj) (u:HO)
 | tbl (ps:Array Value)
 | ext (φ:Heap->Prop)
abbrev Hp:=Addr->Option HO
def upd (H:Hp)(a:Addr)(o:HO):Hp:=fun b=>if b=a then some o else H b
theorem b0i {H:Hp}{a:Addr}{o:HO}:upd H a o a=some o:=by unfold upd;rw[if_pos rfl]
theorem a0o {H:Hp}{a b:Addr}{o:HO}(h:b≠a):upd H a o b=H b:=by unfold upd;rw[if_neg h]
theorem y0i {H:Hp}{a:Addr}{o u:HO}:upd (upd H a o) a u=upd H a u:=by
 funext b;unfold upd;split <;> rfl
theorem z0c {H:Hp}{a b:Addr}{o u:HO}(h:H a=some o)(h':H b=some u)(d:o≠u):a≠b:=by
 intro e;subst e;rw[h]at h';exact d (Option.some.inj h')
theorem a0t {H:Hp}{a b:Addr}{o:HO}(h:H a=some o)(h':H b=none):a≠b:=by
 intro e;subst e;rw[h]at h';cases h'
section
variable (P:Program)(w:World)
def c0s (H:Hp)(h:Heap)(a:Addr):HO->Prop
 | .lst xs=>xs.length<=sizeLine/\∃(its:List Value) (n:Nat),Vals xs its/\h.get? a=some {cls:=.type "list",data:=.seq its.toArray n}
 | .tup xs=>xs.length<=sizeLine/\∃its:List Value,Vals xs its/\IsTup h a its.toArray
 | .dK kvs=>kvs.length<=sizeLine/\(a==sysModules)=false/\∃vs,KV kvs vs/\h.DictOf (c0a P w) a vs
 | .dT kvs=>kvs.length<=sizeLine/\(a==sysModules)=false/\∃xs:List (List Key×Addr×Value),
   Paired (fun(p:List Key×V) (q:List Key×Addr×Value)=>p.1=q.1/\H q.2.1=some (.tup (p.1.map kV))/\RelV p.2 q.2.2) kvs xs /\
   ∃o es ep,h.get? a=some o/\o.ExactDict/\o.data = .dict es ep/\es.toList=xs.map (entryOfKey (tupleKind (c0a P w)))/\(xs.map (·.1)).Nodup
 | .set S n=>h.SetOf (intKind P w) a S n
 | .ins C dx fs=>H dx=some (.own a)/\fs.length<=1000/\dx≠a/\h.get? a=some (PySem.W.instObj C dx) /\
   ∃mA,h.Ns1 dx mA/\(∀f,RelO (fs.lookup f) (mA f))/\PySem.Within mA (fs.map (·.1))
 | .own _=>∃o,h.get? a=some o
 | .xd fs=>∃mA,h.Ns1 a mA/\∀f,RelO (fs.lookup f) (mA f)
 | .rng lo hi=>∃t u v,h.get? a=some {cls:=.type "range",data:=.fields #[.int lo t,.int hi u,.int 1 v]}
 | .frz o u=>h.get? a=some o/\c0s H h a u
 | .tbl ps=>h.get? a=some {cls:=.none,data:=.fields ps}
 | .met f x=>h.get? a=some (PySem.W.methodObj (.ref f) (.ref x))
 | .ext φ=>φ h/\(∃o,h.get? a=some o)/\∀h1 h2:Heap,φ h1->(∀o,h1.get? a=some o->h2.get? a=some o)->φ h2
def HOk (H:Hp)(h:Heap):Prop:=∀a o,H a=some o->c0s P w H h a o
end
section
variable {P:Program}{w:World}{H H':Hp}{h h':Heap}{a:Addr}{o:HO}
theorem c0s.lt (x:c0s P w H h a o):a<h.objs.size:=by
 cases o with
 | lst xs=>obtain⟨_,_,_,_,e⟩:=x;exact Heap.lt_size e
 | tup xs=>obtain⟨_,_,_,p⟩:=x;exact p.lt
 | dK kvs=>obtain⟨_,_,_,_,o,_,_,e,_⟩:=x;exact Heap.lt_size e
 | dT kvs=>obtain⟨_,_,_,_,o,_,_,e,_⟩:=x;exact Heap.lt_size e
 | set S n=>obtain⟨o,_,_,_,e,_⟩:=x;exact Heap.lt_size e
 | ins C dx fs=>obtain⟨_,_,_,e,_⟩:=x;exact Heap.lt_size e
 | own y=>obtain⟨_,e⟩:=x;exact Heap.lt_size e
 | xd fs=>obtain⟨_,⟨_,_,_,e,_⟩,_⟩:=x;exact Heap.lt_size e
 | rng lo hi=>obtain⟨_,_,_,e⟩:=x;exact Heap.lt_size e
 | frz ob u=>obtain⟨e,_⟩:=x;exact Heap.lt_size e
 | tbl ps=>exact Heap.lt_size (show h.get? a=some _ from x)
 | met f y=>exact Heap.lt_size (show h.get? a=some _ from x)
 | ext φ=>obtain⟨_,⟨_,e⟩,_⟩:=x;exact Heap.lt_size e
theorem Paired.mapP {α β:Type}{F G:α->β->Prop}:∀ {l₁:List α} {l₂:List β},Paired F l₁ l₂->(∀a b,F a b->G a b)->Paired G l₁ l₂
 | _,_,.nil,_=>.nil
 | _,_,.cons r t,f=>.cons (f _ _ r) (Paired.mapP t f)
theorem c0s.stay (x:c0s P w H h a o)(k:∀b u,(b=a∨H b=some (.own a))->h.get? b=some u->h'.get? b=some u)
  (ho:∀b,H b=some (.own a)->H' b=some (.own a)) (ht:∀b xs,H b=some (.tup xs)->H' b=some (.tup xs)):c0s P w H' h' a o:=by
 induction o with
 | lst xs=>obtain⟨z,its,n,r,e⟩:=x;exact⟨z,its,n,r,k _ _ (.inl rfl) e⟩
 | tup xs=>obtain⟨z,its,r,ob,e,c⟩:=x;exact⟨z,its,r,ob,k _ _ (.inl rfl) e,c⟩
 | dK kvs=>obtain⟨z,y,vs,r,ob,es,ep,e,c⟩:=x;exact⟨z,y,vs,r,ob,es,ep,k _ _ (.inl rfl) e,c⟩
 | dT kvs =>
  obtain⟨z,y,xs,r,ob,es,ep,e,c⟩:=x
  exact⟨z,y,xs,Paired.mapP r fun p q z=>⟨z.1,ht _ _ z.2.1,z.2.2⟩,ob,es,ep,k _ _ (.inl rfl) e,c⟩
 | set S n=>obtain⟨ob,es,ep,t,e,c⟩:=x;exact⟨ob,es,ep,t,k _ _ (.inl rfl) e,c⟩
 | ins C dx fs =>
  obtain⟨d,z,ne,e,mA,⟨od,es,ep,e2,c⟩,r⟩:=x
  exact⟨ho _ d,z,ne,k _ _ (.inl rfl) e,mA,⟨od,es,ep,k _ _ (.inr d) e2,c⟩,r⟩
 | own y=>obtain⟨ob,e⟩:=x;exact⟨ob,k _ _ (.inl rfl) e⟩
 | xd fs=>obtain⟨mA,⟨od,es,ep,e,c⟩,r⟩:=x;exact⟨mA,⟨od,es,ep,k _ _ (.inl rfl) e,c⟩,r⟩
 | rng lo hi=>obtain⟨t,u,v,e⟩:=x;exact⟨t,u,v,k _ _ (.inl rfl) e⟩
 | frz ob u ih=>obtain⟨e,q⟩:=x;exact⟨k _ _ (.inl rfl) e,ih q⟩
 | tbl ps =>
  have e:h.get? a=some {cls:=.none,data:=.fields ps}:=x
  show h'.get? a=some {cls:=.none,data:=.fields ps}
  exact k a _ (.inl rfl) e
 | met f y =>
  have e:h.get? a=some (PySem.W.methodObj (.ref f) (.ref y)):=x
  show h'.get? a=some (PySem.W.methodObj (.ref f) (.ref y))
  exact k a _ (.inl rfl) e
 | ext φ=>obtain⟨p,⟨o,e⟩,st⟩:=x;exact⟨st _ _ p fun o q=>k _ _ (.inl rfl) q,⟨o,k _ _ (.inl rfl) e⟩,st⟩
theorem HOk.lt (x:HOk P w H h)(e:H a=some o):a<h.objs.size:=(x a o e).lt
theorem HOk.fresh (x:HOk P w H h)(e:h.objs.size<=a):H a=none:=by
 cases q:H a with
 | none=>rfl
 | some u=>exact absurd (Nat.lt_of_lt_of_le (x.lt q) e) (Nat.lt_irrefl _)
theorem HOk.kept (x:HOk P w H h)(k:∀b u,h.get? b=some u->h'.get? b=some u):HOk P w H h':=fun a o e =>
 (x a o e).stay (fun b u _ q=>k b u q) (fun _ q=>q) fun _ _ q=>q
theorem HOk.laid (x:HOk P w H h)(k:∀b u,h.get? b=some u->h'.get? b=some u)(hp:h.objs.size<=a)(new:c0s P w (upd H a o) h' a o):HOk P w (upd H a o) h':=fun b u e=>by
 have hn:=x.fresh hp
 by_cases hb:b=a
 ·subst hb;rw[b0i]at e;cases e;exact new
 ·rw[a0o hb]at e
  exact(x b u e).stay (fun c v _ q=>k c v q) (fun c q=>by rw[a0o (a0t q hn)];exact q) fun c xs q=>by rw[a0o (a0t q hn)];exact q
end
def Rd (H:Hp)(a:Addr)(u:HO):Prop:=H a=some u ∨ ∃o,H a=some (.frz o u)
theorem Rd.ok {P:Program}{w:World}{H:Hp}{h:Heap}{a:Addr}{u:HO}(r:Rd H a u)(x:HOk P w H h):c0s P w H h a u:=by
 rcases r with r | ⟨o,r⟩
 ·exact x a u r
 ·obtain⟨_,q⟩:=x a _ r
  exact q
def Mut:Option HO->Prop
 | some (.lst _)=>True
 | some (.dK _)=>True
 | some (.dT _)=>True
 | some (.set _ _)=>True
 | some (.ins _ _ _)=>True
 | some (.ext _)=>True
 | _=>False
section
variable {P:Program}{w:World}{H:Hp}{h h':Heap}{x e:Addr}{o':HO}
theorem HOk.write (ok:HOk P w H h)(mu:Mut (H x))(he:e=x∨H e=some (.own x))(k:∀b u,b≠e->h.get? b=some u->h'.get? b=some u)(heo:∃u,h'.get? e=some u)
  (new:c0s P w (upd H x o') h' x o'):HOk P w (upd H x o') h':=fun b u q=>by
 have nown:∀c y,H c=some (.own y)->c≠x:=fun c y r z=>by subst z;rw[r]at mu;exact mu
 have ntup:∀c xs,H c=some (.tup xs)->c≠x:=fun c xs r z=>by subst z;rw[r]at mu;exact mu
 by_cases hb:b=x
 ·subst hb;rw[b0i]at q;cases q;exact new
 ·rw[a0o hb]at q
  by_cases hbe:b=e
  ·have q':H b=some (.own x):=by
    rcases he with z | z
    ·exact absurd (hbe.trans z) hb
    ·rw[hbe];exact z
   rw[q]at q';cases q'
   obtain⟨v,hv⟩:=heo
   exact⟨v,by rw[hbe];exact hv⟩
  ·refine(ok b u q).stay (fun c v hc r=>k c v ?_ r) (fun c r=>by rw[a0o (nown c b r)];exact r) fun c xs r=>by rw[a0o (ntup c xs r)];exact r
   rcases hc with rfl | hc
   ·exact hbe
   ·rintro rfl
    rcases he with z | z
    ·exact nown c b hc z
    ·rw[hc]at z;cases z;exact hb rfl
end
structure Un (fs ex:List Addr)(H H':Hp)(h h':Heap):Prop where
 keep:∀b o,h.get? b=some o->H b=none->b∉fs->b∉ex->h'.get? b=some o
 slot:∀b o,h.get? b=some o->H b=none->b∈fs->b∉ex->∃sl,h'.get? b=some {o with slots:=sl}
 free:∀b o,h.get? b=some o->H b=none->b∉ex->H' b=none
 there:∀b o,h.get? b=some o->b∉ex->∃o',h'.get? b=some o'
 tups:∀b xs,H b=some (.tup xs)->H' b=some (.tup xs)
 frzs:∀b o u,H b=some (.frz o u)->H' b=some (.frz o u)
 tbls:∀b ps,H b=some (.tbl ps)->∃more,H' b=some (.tbl (ps++more))
section
variable {fs fs' ex ex':List Addr}{H H1 H2:Hp}{h h1 h2 h':Heap}{a x e:Addr}{o:HO}
theorem Un.any (u:Un fs ex H H1 h h1){b:Addr}{ob:Obj}(q:h.get? b=some ob)(n:H b=none)(hx:b∉ex):∃sl,h1.get? b=some {ob with slots:=sl}:=by
 by_cases hb:b∈fs
 ·exact u.slot b ob q n hb hx
 ·exact⟨ob.slots,u.keep b ob q n hb hx⟩
theorem Un.kept (k:∀b u,h.get? b=some u->h'.get? b=some u):Un fs ex H H h h' :=
 ⟨fun b ob q _ _ _=>k b ob q,fun b ob q _ _ _=>⟨ob.slots,k b ob q⟩,fun _ _ _ n _=>n,fun b ob q _=>⟨ob,k b ob q⟩,fun _ _ q=>q,fun _ _ _ q=>q,fun _ ps q=>⟨#[],by rw[q];simp⟩⟩
theorem Un.refl:Un fs ex H H h h:=Un.kept fun _ _ q=>q
theorem Un.laid (k:∀b u,h.get? b=some u->h'.get? b=some u)(hp:h.objs.size<=a)(hn:H a=none):Un fs ex H (upd H a o) h h' where
 keep:=fun b u q _ _ _=>k b u q
 slot:=fun b u q _ _ _=>⟨u.slots,k b u q⟩
 free:=fun b u q n _=>by rw[a0o (Nat.ne_of_lt (Nat.lt_of_lt_of_le (Heap.lt_size q) hp))];exact n
 there:=fun b u q _=>⟨u,k b u q⟩
 tups:=fun b xs q=>by rw[a0o (a0t q hn)];exact q
 frzs:=fun b u xs q=>by rw[a0o (a0t q hn)];exact q
 tbls:=fun b ps q=>⟨#[],by rw[a0o (a0t q hn),q];simp⟩
theorem Un.write (mu:Mut (H x))(he:e=x∨H e=some (.own x))(k:∀b u,b≠e->h.get? b=some u->h'.get? b=some u)(heo:∃u,h'.get? e=some u):Un fs ex H (upd H x o) h h':=by
 have hx:∀b,H b=none->b≠x:=fun b n z=>by subst z;rw[n]at mu;exact mu
 have hb:∀b,H b=none->b≠e:=fun b n z=>by
  subst z
  rcases he with r | r
  ·exact hx b n r
  ·rw[n]at r;cases r
 have hm:∀b u,H b=some u->¬Mut (some u)->b≠x:=fun b u q nm z=>by subst z;rw[q]at mu;exact nm mu
 refine⟨fun b u q n _ _=>k b u (hb b n) q,fun b u q n _ _=>⟨u.slots,k b u (hb b n) q⟩,fun b u q n _=>by rw[a0o (hx b n)];exact n,fun b u q _=>?_,
  fun b xs q=>by rw[a0o (hm b _ q fun z=>z)];exact q,fun b u xs q=>by rw[a0o (hm b _ q fun z=>z)];exact q,fun b ps q=>⟨#[],by rw[a0o (hm b _ q fun z=>z),q];simp⟩⟩
 by_cases hbe:b=e
 ·subst hbe;exact heo
 ·exact⟨u,k b u hbe q⟩
end
def trk (h:Heap)(H:Hp):List Addr:=(List.range h.objs.size).filter fun a=>(H a).isSome
def hidT (h:Heap)(H:Hp):Heap:=PySem.W.hideAll h (trk h H)
theorem u0e (h:Heap)(H:Hp):(hidT h H).objs.size=h.objs.size:=PySem.W.hideAll_size _ _
theorem w0m {h:Heap}{H:Hp}{b:Addr}{o:Obj}(e:h.get? b=some o)(n:H b=none):(hidT h H).get? b=some o :=
 PySem.W.hideAll_get _ e fun hm=>by
  have q:(H b).isSome=true:=(List.mem_filter.mp hm).2
  rw[n]at q;simp at q
theorem z0a {h:Heap}{H:Hp}{b:Addr}{o:Obj}(e:(hidT h H).get? b=some o):h.get? b=some o/\H b=none:=by
 have e':h.get? b=some o:=PySem.W.of_hideAll (trk h H) e
 refine⟨e',?_⟩
 cases q:H b with
 | none=>rfl
 | some x =>
  have hm:b∈trk h H:=List.mem_filter.mpr ⟨List.mem_range.mpr (Heap.lt_size e'),by simp[q]⟩
  have z:(hidT h H).get? b=none:=PySem.W.hideAll_none (trk h H) hm
  rw[z]at e;cases e
structure Mod (K:PySem.W.Frag)(mg:Str->Option Value)(base:Heap):Prop where
 kin:K.In base
 glob:base.Ns mainGlobals mg
 blt:∃mb,base.Ns builtinsNs mb/\∀x:Str,x ≠ "__name__" -> mb x=bootBuiltins x
 nolimit:base.NoLimit
structure Cx where
 prog:Program
 w:World
 K:PySem.W.Frag
 mg:Str->Option Value
 base:Heap
 A:Around
 N:List Str
 s₀:Shared
 H₀:Hp
 env:Env
 outer:List Env
 stack:List Env
 ex:List Addr
 fn:Str->Bool
 calm:Bool
 pn:List (Addr×Obj)
 xe:Value->Shared->Prop
def frs (l:List Env):List Addr:=l.filterMap (·.frame)
abbrev Cx.fs (X:Cx):List Addr:=frs X.outer
def Vis (sc:Scope)(x:Str):Prop:=sc.names.lookup x=some .local∨sc.names.lookup x=some .cell∨sc.names.lookup x=some .free
def Loc (sc:Scope)(x:Str):Prop:=sc.names.lookup x=some .local∨sc.names.lookup x=some .cell
def Look (env:Env)(h:Heap)(m:Str->Option Value)(x:Str)(u:Value):Prop :=
 (env.kindOf x=some .local/\m x=some u)∨((env.kindOf x=some .cell∨env.kindOf x=some .free)/\∃c,env.cells.lookup x=some c/\h.IsCell c (some u))
structure Cx.Ok (X:Cx):Prop where
 mod:Mod X.K X.mg X.base
 kind:X.env.scope.kind = .function
 glob:X.env.globals=mainGlobals
 blt:X.env.builtins=builtinsNs
 above:X.s₀.heap.objs.size<=X.env.locals
 inj:∀x y c,X.env.cells.lookup x=some c->X.env.cells.lookup y=some c->x=y
 has:∀x,(X.env.kindOf x=some .cell∨X.env.kindOf x=some .free)->∃c,X.env.cells.lookup x=some c
 cab:∀x c,X.fn x=true->X.env.cells.lookup x=some c->X.s₀.heap.objs.size<=c
 hd:X.calm=true->X.A.handled=none
 frames:X.A.frames=some X.stack
 stk:X.stack=X.outer∨(X.stack=X.env::X.outer/\X.env.frame=some X.env.locals)
 exf:∀b∈X.ex,b≠X.env.locals/\∀x c,X.env.cells.lookup x=some c->c≠b
 bs:∀b o,X.base.get? b=some o->X.s₀.heap.get? b=some o/\X.H₀ b=none
 bsz:X.base.objs.size<=X.s₀.heap.objs.size
 noex:∀b o,X.base.get? b=some o->b∉X.ex
 exfs:∀b∈X.ex,b∉X.fs
 funs:X.s₀.heap.FunFrames X.base X.outer
 frf:∀b∈X.fs,X.H₀ b=none
structure Inv (X:Cx)(pins:List (Addr×Obj))(σ:List (Option V))(H:Hp)(s:Shared):Prop where
 ok:X.Ok
 os:s.os=X.s₀.os
 bare:AllBare s.gens
 base:Un X.fs X.ex X.H₀ H X.s₀.heap s.heap
 loc:∃m,s.heap.Ns X.env.locals m/\∀(i:Nat) (x:Str) (v:V),X.N[i]? = some x->σ[i]? = some (some v)->Vis X.env.scope x->∃u,RelV v u/\Look X.env s.heap m x u
 cell:∀x c,X.env.cells.lookup x=some c->∃v,s.heap.IsCell c v
 free:H X.env.locals=none
 freeC:∀x c,X.env.cells.lookup x=some c->H c=none
 pin:∀p∈X.pn++pins,s.heap.get? p.1=some p.2/\H p.1=none/\p.1≠X.env.locals/\p.1∉X.fs/\∀v,p.2.data ≠ .cell v
 hok:HOk X.prog X.w H s.heap
 len:σ.length=X.N.length
section
variable {X:Cx}{pins:List (Addr×Obj)}{σ:List (Option V)}{H H':Hp}{s:Shared}{h':Heap}
theorem Cx.Ok.nofr (ok:X.Ok){b:Addr}{o:Obj}(e:X.base.get? b=some o):b∉X.fs:=fun hb=>by
 have:=(ok.funs.mem hb).1
 rw[e]at this;cases this
theorem Inv.bs (I:Inv X pins σ H s):∀b o,X.base.get? b=some o->s.heap.get? b=some o/\H b=none:=fun b o e =>
 ⟨I.base.keep b o (I.ok.bs b o e).1 (I.ok.bs b o e).2 (I.ok.nofr e) (I.ok.noex b o e),I.base.free b o (I.ok.bs b o e).1 (I.ok.bs b o e).2 (I.ok.noex b o e)⟩
theorem Inv.bk (I:Inv X pins σ H s):∀b o,X.base.get? b=some o->s.heap.get? b=some o:=fun b o e=>(I.bs b o e).1
theorem Inv.mod (I:Inv X pins σ H s):Mod X.K X.mg X.base:=I.ok.mod
theorem Inv.kIn (I:Inv X pins σ H s):X.K.In s.heap:=I.ok.mod.kin.keeps I.bk
theorem Inv.fr (I:Inv X pins σ H s):∃m,Fr X.base X.env.locals s.heap m :=
 let ⟨m,hn,_⟩:=I.loc
 ⟨m,hn,I.bk,Nat.le_trans I.ok.bsz I.ok.above⟩
theorem Inv.lt (I:Inv X pins σ H s):X.env.locals<s.heap.objs.size:=let ⟨_,hn,_⟩:=I.loc;hn.lt
theorem Inv.sz (I:Inv X pins σ H s):X.s₀.heap.objs.size<=s.heap.objs.size:=Nat.le_trans I.ok.above (Nat.le_of_lt I.lt)
theorem Inv.nofs (I:Inv X pins σ H s){a:Addr}(h:s.heap.objs.size<=a):a∉X.fs:=fun hb=>by
 obtain⟨_,o,ho,_⟩:=I.ok.funs.mem hb
 exact absurd (Nat.lt_of_lt_of_le (Heap.lt_size ho) (Nat.le_trans I.sz h)) (Nat.lt_irrefl _)
theorem Inv.cne (I:Inv X pins σ H s):∀x c,X.env.cells.lookup x=some c->c≠X.env.locals:=fun x c e z=>by
 obtain⟨v,o,ho,hd⟩:=I.cell x c e
 obtain⟨m,⟨o',es,ep,ho',hd',_⟩,_⟩:=I.loc
 rw[z,ho']at ho;cases ho;rw[hd']at hd;cases hd
theorem Inv.funs (I:Inv X pins σ H s):s.heap.FunFrames X.base X.outer:=by
 have all:∀(l:List Env),(∀b∈frs l,b∈X.fs)->X.s₀.heap.FunFrames X.base l->s.heap.FunFrames X.base l:=by
  intro l
  induction l with
  | nil=>intro _ _;trivial
  | cons env r ih =>
   intro hs hl
   obtain⟨hk,⟨L,o,hf,hn,ho,hd⟩,hr⟩:=hl
   have hL:L∈X.fs:=hs L (by unfold frs;rw[List.filterMap_cons,hf];exact List.mem_cons_self)
   obtain⟨sl,e⟩:=I.base.slot L o ho (I.ok.frf L hL) hL fun z=>I.ok.exfs L z hL
   exact⟨hk,⟨L,_,hf,hn,e,hd⟩,ih (fun b hb=>hs b (by unfold frs;rw[List.filterMap_cons,hf];exact List.mem_cons_of_mem _ hb)) hr⟩
 exact all X.outer (fun _ hb=>hb) I.ok.funs
theorem Inv.stack (I:Inv X pins σ H s):s.heap.FunFrames X.base X.stack:=by
 rcases I.ok.stk with e | ⟨e,hf⟩
 ·rw[e];exact I.funs
 ·rw[e]
  obtain⟨m,hn,_⟩:=I.loc
  refine .cons (by rw[I.ok.kind];decide) hf hn ?_ I.funs
  exact Heap.get?_none_of_le (Nat.le_trans I.ok.bsz I.ok.above)
theorem Inv.stkSub (I:Inv X pins σ H s):∀b∈frs X.stack,b∈X.env.locals::X.fs:=fun b hb=>by
 rcases I.ok.stk with e | ⟨e,hf⟩
 ·rw[e]at hb;exact List.mem_cons_of_mem _ hb
 ·rw[e]at hb
  unfold frs at hb
  rw[List.filterMap_cons,hf]at hb
  exact hb
theorem Inv.stkFree (I:Inv X pins σ H s):∀b∈frs X.stack,H b=none:=fun b hb=>by
 rcases List.mem_cons.mp (I.stkSub b hb)with e | hb
 ·rw[e];exact I.free
 ·obtain⟨_,o,ho,_⟩:=I.ok.funs.mem hb
  exact I.base.free b o ho (I.ok.frf b hb) fun z=>I.ok.exfs b z hb
theorem Inv.step {g':Array GenState}{t':Nat}{d':Drawn}{ch:List Addr}(I:Inv X pins σ H s)
  (hch:∀b∈ch,(b∈X.ex∨X.s₀.heap.objs.size<=b)/\b≠X.env.locals/\(∀x c,X.env.cells.lookup x=some c->c≠b)/\∀p∈X.pn++pins,p.1≠b)
  (keep:∀b o,b≠X.env.locals->b∉X.fs->b∉ch->s.heap.get? b=some o->H b=none->h'.get? b=some o)
  (slot:∀b o,b≠X.env.locals->b∈X.fs->b∉ch->s.heap.get? b=some o->H b=none->∃sl,h'.get? b=some {o with slots:=sl}) (free:∀b o,b∉ch->s.heap.get? b=some o->H b=none->H' b=none)
  (there:∀b o,b∉ch->s.heap.get? b=some o->∃o',h'.get? b=some o')
  (tups:∀b xs,H b=some (.tup xs)->H' b=some (.tup xs)) (frzs:∀b o u,H b=some (.frz o u)->H' b=some (.frz o u)) (tbls:∀b ps,H b=some (.tbl ps)->∃more,H' b=some (.tbl (ps++more)))
  (ns:∀m,s.heap.Ns X.env.locals m->h'.Ns X.env.locals m) (hok:HOk X.prog X.w H' h') (hg:AllBare g') :
  Inv X pins σ H' {s with heap:=h',gens:=g',drawn:=d',toks:=t'}:=by
 have neL:∀b o,X.s₀.heap.get? b=some o->b≠X.env.locals:=fun b o e=>Nat.ne_of_lt (Nat.lt_of_lt_of_le (Heap.lt_size e) I.ok.above)
 have neC:∀b o,X.s₀.heap.get? b=some o->b∉X.ex->b∉ch:=fun b o e hx hb=>by
  rcases(hch b hb).1 with z | z
  ·exact hx z
  ·exact absurd (Nat.lt_of_lt_of_le (Heap.lt_size e) z) (Nat.lt_irrefl _)
 have cellK:∀x c,X.env.cells.lookup x=some c->∀v,s.heap.IsCell c v->h'.IsCell c v:=fun x c e v ⟨o,ho,hd⟩=>by
  have nch:c∉ch:=fun z=>(hch c z).2.2.1 x c e rfl
  by_cases hc:c∈X.fs
  ·obtain⟨sl,q⟩:=slot c o (I.cne x c e) hc nch ho (I.freeC x c e)
   exact⟨_,q,hd⟩
  ·exact⟨o,keep c o (I.cne x c e) hc nch ho (I.freeC x c e),hd⟩
 refine⟨I.ok,I.os,hg,⟨fun b o e n hb hx=>?_,fun b o e n hb hx=>?_,fun b o e n hx=>?_,fun b o e hx=>?_,fun b xs e=>tups b xs (I.base.tups b xs e),fun b o xs e=>frzs b o xs (I.base.frzs b o xs e),fun b ps e=>?_⟩,?_,fun x c e=>?_,?_,fun x c e=>?_,fun p hp=>?_,hok,I.len⟩
 ·exact keep b o (neL b o e) hb (neC b o e hx) (I.base.keep b o e n hb hx) (I.base.free b o e n hx)
 ·obtain⟨sl,e1⟩:=I.base.slot b o e n hb hx
  obtain⟨sl',e2⟩:=slot b _ (neL b o e) hb (neC b o e hx) e1 (I.base.free b o e n hx)
  exact⟨sl',e2⟩
 ·obtain⟨o',e1⟩:=I.base.there b o e hx
  exact free b o' (neC b o e hx) e1 (I.base.free b o e n hx)
 ·obtain⟨o',e1⟩:=I.base.there b o e hx
  exact there b o' (neC b o e hx) e1
 ·obtain⟨m1,e1⟩:=I.base.tbls b ps e
  obtain⟨m2,e2⟩:=tbls b _ e1
  exact⟨m1++m2,by rw[e2,Array.append_assoc]⟩
 ·obtain⟨m,hn,hl⟩:=I.loc
  refine⟨m,ns m hn,fun i x v e1 e2 e3=>?_⟩
  obtain⟨u,r,l⟩:=hl i x v e1 e2 e3
  refine⟨u,r,?_⟩
  rcases l with l | ⟨k,c,e,z⟩
  ·exact .inl l
  ·exact .inr ⟨k,c,e,cellK x c e _ z⟩
 ·obtain⟨v,z⟩:=I.cell x c e
  exact⟨v,cellK x c e v z⟩
 ·obtain⟨m,⟨o,_,_,ho,_⟩,_⟩:=I.loc
  exact free _ o (fun z=>(hch _ z).2.1 rfl) ho I.free
 ·obtain⟨v,o,ho,hd⟩:=I.cell x c e
  exact free c o (fun z=>(hch c z).2.2.1 x c e rfl) ho (I.freeC x c e)
 ·obtain⟨e,n,ne,nf,d⟩:=I.pin p hp
  have nch:p.1∉ch:=fun z=>(hch p.1 z).2.2.2 p hp rfl
  exact⟨keep p.1 p.2 ne nf nch e n,free p.1 p.2 nch e n,ne,nf,d⟩
theorem Inv.un {t':Nat}(I:Inv X pins σ H s)(u:Un X.fs [] H H' s.heap h')(hok:HOk X.prog X.w H' h'):Inv X pins σ H' {s with heap:=h',toks:=t'}:=by
 obtain⟨m,⟨o,es,ep,ho,r⟩,_⟩:=id I.loc
 obtain⟨sl,hL⟩:=u.any ho I.free (by simp)
 exact I.step (g':=s.gens) (d':=s.drawn) (ch:=[]) (fun _ z=>nomatch z) (fun b o _ hb _ e n=>u.keep b o e n hb (by simp)) (fun b o _ hb _ e n=>u.slot b o e n hb (by simp)) (fun b o _ e n=>u.free b o e n (by simp)) (fun b o _ e=>u.there b o e (by simp)) u.tups u.frzs u.tbls (fun m' hm=>by
  obtain⟨o',es',ep',ho',r'⟩:=hm
  rw[ho]at ho';cases ho'
  exact⟨_,es',ep',hL,r'⟩) hok I.bare
theorem Inv.call {g':Array GenState}{t':Nat}{d':Drawn}{ch:List Addr}(I:Inv X pins σ H s)(u:Un (frs X.stack) ch H H' s.heap h')(hok:HOk X.prog X.w H' h')(hg:AllBare g')
  (hch:∀b∈ch,(b∈X.ex∨X.s₀.heap.objs.size<=b)/\b≠X.env.locals/\(∀x c,X.env.cells.lookup x=some c->c≠b)/\∀p∈X.pn++pins,p.1≠b) :
  Inv X pins σ H' {s with heap:=h',gens:=g',drawn:=d',toks:=t'}:=by
 obtain⟨m,⟨o,es,ep,ho,r⟩,_⟩:=id I.loc
 obtain⟨sl,hL⟩:=u.any ho I.free fun z=>(hch _ z).2.1 rfl
 exact I.step (ch:=ch) hch (fun b o hL hb hc e n=>u.keep b o e n (fun z=>(List.mem_cons.mp (I.stkSub b z)).elim hL hb) hc) (fun b o _ _ hc e n=>u.any e n hc) (fun b o hc e n=>u.free b o e n hc) (fun b o hc e=>u.there b o e hc) u.tups u.frzs u.tbls (fun m' hm=>by
  obtain⟨o',es',ep',ho',r'⟩:=hm
  rw[ho]at ho';cases ho'
  exact⟨_,es',ep',hL,r'⟩) hok hg
theorem Inv.turned {t':Nat}{it:Addr}(I:Inv X pins σ H s)(k:∀b o,b≠it->s.heap.get? b=some o->h'.get? b=some o)(hn:H it=none)(hL:it≠X.env.locals)
  (h1:it∈X.ex∨X.s₀.heap.objs.size<=it) (h2:∀x c,X.env.cells.lookup x=some c->c≠it) (h3:∀p∈X.pn++pins,p.1≠it):Inv X pins σ H {s with heap:=h',toks:=t'}:=by
 have nit:∀b u,H b=some u->b≠it:=fun b u e z=>by rw[z,hn]at e;cases e
 refine I.step (g':=s.gens) (d':=s.drawn) (ch:=[it]) (fun b hb=>?_) (fun b o _ _ hc e _=>k b o (fun z=>hc (by simp[z])) e) (fun b o _ _ hc e _=>⟨o.slots,k b o (fun z=>hc (by simp[z])) e⟩) (fun _ _ _ _ n=>n)
  (fun b o hc e=>⟨o,k b o (fun z=>hc (by simp[z])) e⟩) (fun _ _ e=>e) (fun _ _ _ e=>e) (fun b ps e=>⟨#[],by rw[e];simp⟩) (fun m hm=>?_) (fun b u e=>?_) I.bare
 ·have e:b=it:=by simpa using hb
  subst e
  exact⟨h1,hL,h2,h3⟩
 ·obtain⟨o,es,ep,ho,r⟩:=hm
  exact⟨o,es,ep,k _ o (Ne.symm hL) ho,r⟩
 ·refine(I.hok b u e).stay (fun c v hc q=>k c v ?_ q) (fun _ q=>q) fun _ _ q=>q
  rcases hc with z | z
  ·rw[z];exact nit b u e
  ·exact nit c _ z
theorem Inv.tok (I:Inv X pins σ H s)(t:Nat):Inv X pins σ H {s with toks:=t}:=I.un (h':=s.heap) (t':=t) Un.refl I.hok
theorem Inv.kept {t':Nat}(I:Inv X pins σ H s)(k:∀b u,s.heap.get? b=some u->h'.get? b=some u):Inv X pins σ H {s with heap:=h',toks:=t'}:=I.un (Un.kept k) (I.hok.kept k)
theorem Inv.laid {a:Addr}{o:HO}{t':Nat}(I:Inv X pins σ H s)(k:∀b u,s.heap.get? b=some u->h'.get? b=some u)(hp:s.heap.objs.size<=a)(new:c0s X.prog X.w (upd H a o) h' a o) :
  Inv X pins σ (upd H a o) {s with heap:=h',toks:=t'}:=I.un (Un.laid k hp (I.hok.fresh hp)) (I.hok.laid k hp new)
theorem Inv.write {x e:Addr}{o:HO}{t':Nat}(I:Inv X pins σ H s)(mu:Mut (H x))(he:e=x∨H e=some (.own x))(k:∀b u,b≠e->s.heap.get? b=some u->h'.get? b=some u)(heo:∃u,h'.get? e=some u)
  (new:c0s X.prog X.w (upd H x o) h' x o):Inv X pins σ (upd H x o) {s with heap:=h',toks:=t'}:=I.un (Un.write mu he k heo) (I.hok.write mu he k heo new)
theorem Inv.weak {σ':List (Option V)}(I:Inv X pins σ H s)(hl:σ'.length=σ.length)(w:∀(i:Nat) v,σ'[i]? = some (some v)->σ[i]? = some (some v)):Inv X pins σ' H s :=
 ⟨I.ok,I.os,I.bare,I.base,let ⟨m,hn,hl'⟩:=I.loc;⟨m,hn,fun i x v e1 e2 e3=>hl' i x v e1 (w i v e2) e3⟩,I.cell,I.free,I.freeC,I.pin,I.hok,hl.trans I.len⟩
theorem Inv.pins_of {pins':List (Addr×Obj)}(I:Inv X pins σ H s)(h:∀p∈pins',s.heap.get? p.1=some p.2/\H p.1=none/\p.1≠X.env.locals/\p.1∉X.fs/\∀v,p.2.data ≠ .cell v):Inv X pins' σ H s :=
 ⟨I.ok,I.os,I.bare,I.base,I.loc,I.cell,I.free,I.freeC,fun p hp=>(List.mem_append.mp hp).elim (fun z=>I.pin p (List.mem_append_left _ z)) (h p),I.hok,I.len⟩
theorem q0i {N:List Str}(hN:N.Nodup){i j:Nat}{x:Str}(a:N[i]? = some x)(b:N[j]? = some x):i=j:=by
 obtain⟨h1,e1⟩:=List.getElem?_eq_some_iff.mp a
 obtain⟨h2,e2⟩:=List.getElem?_eq_some_iff.mp b
 exact(List.getElem_inj hN).mp (e1.trans e2.symm)
theorem m0j {M:Model}{A:Around}{E:Value->Shared->Prop}{i:Nat}{x:Str}{v:V}{u:Value}{Q:Unit->Shared->Prop}(I:Inv X pins σ H s)(hN:X.N.Nodup)(hi:X.N[i]? = some x)(hx:Loc X.env.scope x)(r:RelV v u)
  (h:∀s',Inv X pins (σ.set i (some v)) H s'->(∃a,Heap.SameBut a s.heap s'.heap/\(a=X.env.locals∨X.env.cells.lookup x=some a))->Q () s') (hf:X.fn x=true∨X.env.scope.names.lookup x=some .local:=by first | exact .inl rfl | exact .inr rfl | assumption):wpAny M A (storeName X.env x u) Q E s:=by
 obtain⟨m,hn,hl⟩:=id I.loc
 have hcls:(X.env.scope.kind == .class||(X.env.scope.kind == .module&&X.env.locals != X.env.globals))=false:=by rw[I.ok.kind];rfl
 have hiσ:i<σ.length:=by rw[I.len];exact(List.getElem?_eq_some_iff.mp hi).1
 have cne:=I.cne
 have tracked:∀ {a:Addr} {h':Heap},(∃o,s.heap.get? a=some o/\H a=none)->Heap.SameBut a s.heap h'->HOk X.prog X.w H h':=fun{a h'} ha hs b ob e=>by
  obtain⟨_,_,hfree⟩:=ha
  refine(I.hok b ob e).stay (fun c w' hc q=>(hs.2 c ?_).trans q) (fun _ q=>q) fun _ _ q=>q
  rintro rfl
  rcases hc with rfl | hc
  ·rw[hfree]at e;cases e
  ·rw[hfree]at hc;cases hc
 rcases hx with hk | hk
 ·refine wpAny_storeName_local hk hn (fun h' hn' hs=>?_) hcls
  obtain⟨oL,_,_,hoL,_⟩:=id hn
  refine h _ ⟨I.ok,I.os,I.bare,⟨fun b o e n hb hx=>?_,fun b o e n hb hx=>?_,I.base.free,fun b o e hx=>?_,I.base.tups,I.base.frzs,I.base.tbls⟩,⟨_,hn',fun j y v' e1 e2 e3=>?_⟩,fun y c e=>?_,I.free,I.freeC,fun p hp=>?_,tracked ⟨oL,hoL,I.free⟩ hs,by simpa using I.len⟩ ⟨_,hs,.inl rfl⟩
  ·exact(hs.2 b (Nat.ne_of_lt (Nat.lt_of_lt_of_le (Heap.lt_size e) I.ok.above))).trans (I.base.keep b o e n hb hx)
  ·obtain⟨sl,e1⟩:=I.base.slot b o e n hb hx
   exact⟨sl,(hs.2 b (Nat.ne_of_lt (Nat.lt_of_lt_of_le (Heap.lt_size e) I.ok.above))).trans e1⟩
  ·obtain⟨o',e1⟩:=I.base.there b o e hx
   exact⟨o',(hs.2 b (Nat.ne_of_lt (Nat.lt_of_lt_of_le (Heap.lt_size e) I.ok.above))).trans e1⟩
  ·by_cases hj:j=i
   ·subst hj
    rw[hi]at e1;cases e1
    rw[List.getElem?_set_self hiσ]at e2
    cases e2
    exact⟨u,r,.inl ⟨hk,by simp⟩⟩
   ·rw[List.getElem?_set_ne (Ne.symm hj)]at e2
    obtain⟨u',r',q⟩:=hl j y v' e1 e2 e3
    refine⟨u',r',?_⟩
    rcases q with⟨k,e⟩ | ⟨k,c,e,z⟩
    ·refine .inl ⟨k,?_⟩
     have:y≠x:=fun e=>hj (q0i hN e1 (e▸hi))
     simp[this,e]
    ·exact .inr ⟨k,c,e,z.sameBut hs (cne y c e)⟩
  ·obtain⟨w',z⟩:=I.cell y c e
   exact⟨w',z.sameBut hs (cne y c e)⟩
  ·obtain⟨e,n,ne,nf,d⟩:=I.pin p hp
   exact⟨(hs.2 p.1 ne).trans e,n,ne,nf,d⟩
 ·have hfn:X.fn x=true:=by
   rcases hf with z | z
   ·exact z
   ·rw[z]at hk;cases hk
  obtain⟨c,hc⟩:=I.ok.has x (.inl hk)
  obtain⟨w',z⟩:=I.cell x c hc
  refine wpAny_storeName_cell I.ok.kind hk hc z (fun h' hc' hs=>?_)
  obtain⟨oc,hoc,hocd⟩:=id z
  refine h {s with heap:=h'} ⟨I.ok,I.os,I.bare,⟨fun b o e n hb hx=>?_,fun b o e n hb hx=>?_,I.base.free,fun b o e hx=>?_,I.base.tups,I.base.frzs,I.base.tbls⟩,⟨m,hn.sameBut hs (Ne.symm (cne x c hc)),fun j y v' e1 e2 e3=>?_⟩,fun y c' e=>?_,I.free,I.freeC,fun p hp=>?_,tracked ⟨oc,hoc,I.freeC x c hc⟩ hs,by simpa using I.len⟩ ⟨c,hs,.inr hc⟩
  ·exact(hs.2 b (Nat.ne_of_lt (Nat.lt_of_lt_of_le (Heap.lt_size e) (I.ok.cab x c hfn hc)))).trans (I.base.keep b o e n hb hx)
  ·obtain⟨sl,e1⟩:=I.base.slot b o e n hb hx
   exact⟨sl,(hs.2 b (Nat.ne_of_lt (Nat.lt_of_lt_of_le (Heap.lt_size e) (I.ok.cab x c hfn hc)))).trans e1⟩
  ·obtain⟨o',e1⟩:=I.base.there b o e hx
   exact⟨o',(hs.2 b (Nat.ne_of_lt (Nat.lt_of_lt_of_le (Heap.lt_size e) (I.ok.cab x c hfn hc)))).trans e1⟩
  ·by_cases hj:j=i
   ·subst hj
    rw[hi]at e1;cases e1
    rw[List.getElem?_set_self hiσ]at e2
    cases e2
    exact⟨u,r,.inr ⟨.inl hk,c,hc,hc'⟩⟩
   ·rw[List.getElem?_set_ne (Ne.symm hj)]at e2
    obtain⟨u',r',q⟩:=hl j y v' e1 e2 e3
    refine⟨u',r',?_⟩
    rcases q with q | ⟨k,c',e,z'⟩
    ·exact .inl q
    ·refine .inr ⟨k,c',e,z'.sameBut hs ?_⟩
     rintro rfl
     exact hj (q0i hN e1 (I.ok.inj _ _ _ e hc▸hi))
  ·by_cases hcc:c'=c
   ·subst hcc;exact⟨_,hc'⟩
   ·obtain⟨w2,z2⟩:=I.cell y c' e
    exact⟨w2,z2.sameBut hs hcc⟩
  ·obtain⟨e,n,ne,nf,d⟩:=I.pin p hp
   refine⟨(hs.2 p.1 ?_).trans e,n,ne,nf,d⟩
   intro q
   rw[q,hoc]at e
   have q':oc=p.2:=Option.some.inj e
   exact d w' (by rw[<- q'];exact hocd)
theorem k0x {M:Model}{A:Around}{E:Value->Shared->Prop}{i:Nat}{x:Str}{v:V}{u:Value}{Q:Unit->Shared->Prop}(I:Inv X pins σ H s)(hN:X.N.Nodup)(hi:X.N[i]? = some x)(hx:Loc X.env.scope x)(r:RelV v u)
  (h:∀s',Inv X pins (σ.set i (some v)) H s'->Q () s') (hf:X.fn x=true∨X.env.scope.names.lookup x=some .local:=by first | exact .inl rfl | exact .inr rfl | assumption):wpAny M A (storeName X.env x u) Q E s :=
 m0j I hN hi hx r (fun s' I' _=>h s' I') hf
theorem Inv.call' {s':Shared}{ch:List Addr}(I:Inv X pins σ H s)(ho:s'.os=s.os)(u:Un (frs X.stack) ch H H' s.heap s'.heap)(hok:HOk X.prog X.w H' s'.heap)(hg:AllBare s'.gens)
  (hch:∀b∈ch,(b∈X.ex∨X.s₀.heap.objs.size<=b)/\b≠X.env.locals/\(∀x c,X.env.cells.lookup x=some c->c≠b)/\∀p∈X.pn++pins,p.1≠b):Inv X pins σ H' s':=by
 obtain⟨h',g',d',t',o'⟩:=s'
 have e:o'=s.os:=ho
 subst e
 exact I.call (g':=g') (t':=t') (d':=d') u hok hg hch
end
abbrev XK:=Value->Option Addr->Hp->Prop
abbrev St:=List (Option V)
abbrev VK:=V->Hp->Prop
abbrev TE:=St->Hp->VK->Prop
abbrev TT:=St->Hp->(Bool->Hp->Prop)->Prop
abbrev TA:=St->Hp->(List V->Hp->Prop)->Prop
structure Ends where
 nx:St->Hp->Prop
 rt:VK
 bk:St->Hp->Prop:=fun _ _=>False
 ct:St->Hp->Prop:=fun _ _=>False
abbrev TS:=Ends->St->Hp->Prop
def EP (X:Cx)(pins:List (Addr×Obj))(σ:St)(Q:VK)(u:Value)(s':Shared):Prop:=∃v H',Inv X pins σ H' s'/\RelV v u/\Q v H'
def TP (X:Cx)(pins:List (Addr×Obj))(σ:St)(Q:Bool->Hp->Prop)(b:Bool)(s':Shared):Prop:=∃H',Inv X pins σ H' s'/\Q b H'
def AP (X:Cx)(pins:List (Addr×Obj))(σ:St)(Q:List V->Hp->Prop)(us:List Value)(s':Shared):Prop:=∃vs H',Inv X pins σ H' s'/\Vals vs us/\Q vs H'
def SP (X:Cx)(pins:List (Addr×Obj))(D:Ends)(f:Flow)(s':Shared):Prop :=
 match f with
 | .next=>∃ σ' H',Inv X pins σ' H' s'/\D.nx σ' H'
 | .brk=>∃ σ' H',Inv X pins σ' H' s'/\D.bk σ' H'
 | .cont=>∃ σ' H',Inv X pins σ' H' s'/\D.ct σ' H'
 | .ret u=>∃v σ' H',Inv X pins σ' H' s'/\RelV v u/\D.rt v H'
def PE (X:Cx)(e:Expr)(t:TE):Prop :=
 ∀(pins:List (Addr×Obj)) (s:Shared) (σ:St) (H:Hp) (Q:VK),Inv X pins σ H s->t σ H Q->wpAny (model X.prog X.w) X.A (eval e X.env) (EP X pins σ Q) X.xe s
def PT (X:Cx)(e:Expr)(t:TT):Prop :=
 ∀(pins:List (Addr×Obj)) (s:Shared) (σ:St) (H:Hp) (Q:Bool->Hp->Prop),Inv X pins σ H s->t σ H Q->wpAny (model X.prog X.w) X.A (isTrue e X.env (eval e X.env)) (TP X pins σ Q) X.xe s
def PW (X:Cx)(e:Expr)(t:TT):Prop :=
 ∀(whole:Sem Value) (pins:List (Addr×Obj)) (s:Shared) (σ:St) (H:Hp) (Q:Bool->Hp->Prop),Inv X pins σ H s->t σ H Q->wpAny (model X.prog X.w) X.A (isTrue e X.env whole) (TP X pins σ Q) X.xe s
theorem PW.pt {X:Cx}{e:Expr}{t:TT}(h:PW X e t):PT X e t:=h _
def PA (X:Cx)(es:List Expr)(t:TA):Prop :=
 ∀(pos:Pos) (pins:List (Addr×Obj)) (s:Shared) (σ:St) (H:Hp) (Q:List V->Hp->Prop),Inv X pins σ H s->t σ H Q->wpAny (model X.prog X.w) X.A (spliced (backTo pos (starEach es X.env))) (AP X pins σ Q) X.xe s
def PS (X:Cx)(st:Stmt)(t:TS):Prop :=
 ∀(pins:List (Addr×Obj)) (s:Shared) (σ:St) (H:Hp) (D:Ends),Inv X pins σ H s->t D σ H->wpAny (model X.prog X.w) X.A (exec st X.env) (SP X pins D) X.xe s
def PSs (X:Cx)(st:List Stmt)(t:TS):Prop :=
 ∀(pins:List (Addr×Obj)) (s:Shared) (σ:St) (H:Hp) (D:Ends),Inv X pins σ H s->t D σ H->wpAny (model X.prog X.w) X.A (execs st X.env) (SP X pins D) X.xe s
theorem thn {α:Type}{t:Sem α}{Q Q':α->Shared->Prop}{M:Model}{A:Around}{E:Value->Shared->Prop}{s:Shared}(h:wpAny M A t Q E s)(hQ:∀a s,Q a s->Q' a s):wpAny M A t Q' E s:=wpAny_mono h hQ fun _ _ x=>x
section
variable {X:Cx}
def tVar (i:Nat):TE:=fun σ H Q=>∃v,σ[i]? = some (some v)/\Q v H
def tC (v:V):TE:=fun _ H Q=>Q v H
theorem b1y {i:Nat}{x:Str}{pos:Pos}(hN:X.N[i]? = some x)(hv:Vis X.env.scope x)(hd:(x==("__debug__" : Str))=false:=by decide)(hcd:(x==("__classdict__" : Str))=false:=by decide):PE X (.Name x pos) (tVar i):=by
 intro pins s σ H Q I h
 obtain⟨v,e,h⟩:=h
 obtain⟨m,hn,hl⟩:=I.loc
 obtain⟨u,r,l⟩:=hl i x v hN e hv
 have fin:EP X pins σ Q u s:=⟨v,H,I,r,h⟩
 rcases l with⟨hk,hm⟩ | ⟨hk,c,hc,hcell⟩
 ·exact wpAny_Name (wpAny_loadName_local I.ok.kind hk hn hm fin) hd
 ·rcases hk with hk | hk
  ·exact wpAny_Name (wpAny_loadName_cell I.ok.kind hk hc hcell fin) hd
  ·exact wpAny_Name (wpAny_loadName_free I.ok.kind hk hc hcell fin hcd) hd
theorem a0j {i j pos}:PE X (.Constant (.int i) j pos) (tC (.int i)):=fun _ _ _ H _ I h=>wpAny_Constant_int ⟨.int i,H,I.tok _,⟨_,rfl⟩,h⟩
theorem y0x {b j pos}:PE X (.Constant (.bool b) j pos) (tC (.bl b)):=fun _ _ _ H _ I h=>Constant_bool ⟨.bl b,H,I,rfl,h⟩
theorem d0d {x j pos}:PE X (.Constant (.str x) j pos) (tC (.str x)):=fun _ _ _ H _ I h=>Calls.Constant_str ⟨.str x,H,I.tok _,⟨_,rfl⟩,h⟩
def Gl (X:Cx)(x:Str):Prop:=X.env.kindOf x=some .globalImplicit
theorem z0h {E:Value->Shared->Prop}{pins:List (Addr×Obj)}{s:Shared}{σ:St}{H:Hp}{x:Str}{u:Value}{pos:Pos}{Q:Value->Shared->Prop}(I:Inv X pins σ H s)(hg:Gl X x)(hm:X.mg x=some u)(h:Q u s)
  (hd:(x==("__debug__" : Str))=false:=by decide):wpAny (model X.prog X.w) X.A (eval (.Name x pos) X.env) Q E s :=
 Calls.Name_function_global I.ok.kind hg (Calls.loadGlobal_global (by rw[I.ok.glob];exact I.mod.glob.keeps I.bk) hm h) hd
theorem n0d {E:Value->Shared->Prop}{pins:List (Addr×Obj)}{s:Shared}{σ:St}{H:Hp}{x:Str}{u:Value}{pos:Pos}{Q:Value->Shared->Prop}(I:Inv X pins σ H s)(hg:Gl X x)(hm:X.mg x=none)(hv:bootBuiltins x=some u)(h:Q u s)
  (hn:x ≠ "__name__" := by decide) (hd:(x==("__debug__" : Str))=false:=by decide):wpAny (model X.prog X.w) X.A (eval (.Name x pos) X.env) Q E s:=by
 obtain⟨mb,h1,h2⟩:=I.mod.blt
 exact Calls.Name_function_global I.ok.kind hg (Calls.loadGlobal_builtin (by rw[I.ok.glob];exact I.mod.glob.keeps I.bk) hm (by rw[I.ok.blt];exact h1.keeps I.bk) ((h2 x hn).trans hv) h) hd
theorem y0w {x:Str}{v:V}{u:Value}{pos:Pos}(hg:Gl X x)(hm:X.mg x=none)(hv:bootBuiltins x=some u)(r:RelV v u)(hn:x ≠ "__name__" := by decide)(hd:(x==("__debug__" : Str))=false:=by decide):PE X (.Name x pos) (tC v) :=
 fun _ _ _ H _ I h=>n0d I hg hm hv ⟨v,H,I,r,h⟩ hn hd
variable {a b:Expr}{ta tb:TE}{pos:Pos}
def tB (t:TE):TT:=fun σ H Q=>t σ H fun x H1=>∃c,x = .bl c/\Q c H1
theorem x0n {e:Expr}{t:TE}(h:PE X e t)(he:∀whole,isTrue e X.env whole=(do let v <- whole;standAt e.pos;holding [v] (truthy v)):=by intro _;rfl):PT X e (tB t):=by
 intro pins s σ H Q I hw
 refine isTrue_plain (thn (h pins s σ H _ I hw) fun v s1 ⟨x,H1,I1,r1,q1⟩=>?_) (he _)
 obtain⟨d,rfl,q⟩:=q1
 cases r1
 exact wpAny_truthy_bool ⟨H1,I1,q⟩
variable {tA tB':TT}{rest:List Expr}
def tAnd (t u:TT):TT:=fun σ H Q=>t σ H fun c H1=>if c=true then u σ H1 Q else Q false H1
def tOr (t u:TT):TT:=fun σ H Q=>t σ H fun c H1=>if c=true then Q true H1 else u σ H1 Q
def tNot (t:TT):TT:=fun σ H Q=>t σ H fun c H1=>Q (!c) H1
theorem g0x (ha:PT X a tA):PW X (.BoolOp .And [a] pos) tA:=by
 intro wh pins s σ H Q I h
 refine isTrue_and (thn (ha pins s σ H Q I h) fun c s1 e=>?_)
 cases c with
 | true=>exact isTrue_and_nil e
 | false=>exact e
theorem x0m (ha:PT X a tA):PW X (.BoolOp .Or [a] pos) tA:=by
 intro wh pins s σ H Q I h
 refine isTrue_or (thn (ha pins s σ H Q I h) fun c s1 e=>?_)
 cases c with
 | false=>exact isTrue_or_nil e
 | true=>exact e
theorem k0a (ha:PT X a tA)(hb:PW X (.BoolOp .And (b::rest) pos) tB'):PW X (.BoolOp .And (a::b::rest) pos) (tAnd tA tB'):=by
 intro wh pins s σ H Q I h
 refine isTrue_and (thn (ha pins s σ H _ I h) fun c s1 ⟨H1,I1,q1⟩=>?_)
 cases c with
 | true=>exact hb wh pins s1 σ H1 Q I1 q1
 | false=>exact⟨H1,I1,q1⟩
theorem y0r (ha:PT X a tA)(hb:PW X (.BoolOp .Or (b::rest) pos) tB'):PW X (.BoolOp .Or (a::b::rest) pos) (tOr tA tB'):=by
 intro wh pins s σ H Q I h
 refine isTrue_or (thn (ha pins s σ H _ I h) fun c s1 ⟨H1,I1,q1⟩=>?_)
 cases c with
 | true=>exact⟨H1,I1,q1⟩
 | false=>exact hb wh pins s1 σ H1 Q I1 q1
theorem t0e (ha:PT X a tA):PT X (.UnaryOp .Not a pos) (tNot tA):=by
 intro pins s σ H Q I h
 exact isTrue_not (ha pins s σ H (fun c H1=>Q (!c) H1) I h)
def b1j (ta tb:TE):TE:=fun σ H Q=>ta σ H fun x H1=>∃c,x = .bl c/\if c=true then tb σ H1 Q else Q (.bl false) H1
def b1h (ta:TE):TE:=fun σ H Q=>ta σ H fun x H1=>∃c,x = .bl c/\Q (.bl (!c)) H1
theorem b1z {op}{t:TE}(h:PE X a t):PE X (.BoolOp op [a] pos) t:=fun pins s σ H Q I hw=>BoolOp_one (h pins s σ H Q I hw)
theorem c1c (ha:PE X a ta)(hb:PE X (.BoolOp .And (b::rest) pos) tb):PE X (.BoolOp .And (a::b::rest) pos) (b1j ta tb):=by
 intro pins s σ H Q I h
 refine BoolOp_and (thn (ha pins s σ H _ I h) fun v s1 ⟨x,H1,I1,r1,q1⟩=>?_)
 obtain⟨c,rfl,q1⟩:=q1
 cases r1
 refine wpAny_truthy_bool ?_
 cases c with
 | true=>exact hb pins s1 σ H1 Q I1 q1
 | false=>exact⟨.bl false,H1,I1,rfl,q1⟩
theorem c1a (ha:PE X a ta):PE X (.UnaryOp .Not a pos) (b1h ta):=by
 intro pins s σ H Q I h
 refine UnaryOp_ (thn (ha pins s σ H _ I h) fun v s1 ⟨x,H1,I1,r1,q1⟩=>?_)
 obtain⟨c,rfl,q1⟩:=q1
 cases r1
 exact not_of (wpAny_truthy_bool ⟨.bl (!c),H1,I1,rfl,q1⟩)
def tIf (t:TT)(ta tb:TE):TE:=fun σ H Q=>t σ H fun c H1=>if c=true then ta σ H1 Q else tb σ H1 Q
theorem w0b {c:Expr}(hc:PT X c tA)(ha:PE X a ta)(hb:PE X b tb):PE X (.IfExp c a b pos) (tIf tA ta tb):=by
 intro pins s σ H Q I h
 refine wpAny_IfExp (thn (hc pins s σ H _ I h) fun d s1 ⟨H1,I1,q1⟩=>?_)
 cases d with
 | true=>exact ha pins s1 σ H1 Q I1 q1
 | false=>exact hb pins s1 σ H1 Q I1 q1
end
def SqL (K:PySem.W.Frag)(H:Hp)(a:Addr)(xs:List V):Prop :=
 Rd H a (.lst xs) ∨
  ∃(o:Obj) (its:Array Value) (n:Nat),K.lookup a=some o/\o.cls = .type "list" /\ o.dict=none/\o.data = .seq its n/\its.size<=sizeLine/\Vals xs its.toList
def SqT (K:PySem.W.Frag)(H:Hp)(a:Addr)(xs:List V):Prop :=
 Rd H a (.tup xs) ∨
  ∃(o:Obj) (its:Array Value) (n:Nat),K.lookup a=some o/\o.cls = .type "tuple" /\ o.data = .seq its n/\its.size<=sizeLine/\Vals xs its.toList
def absV:Value->Option V
 | .none=>some .non
 | .bool b=>some (.bl b)
 | .int i _=>some (.int i)
 | .str x _=>some (.str x)
 | .bytes b _=>some (.byt b)
 | .float b _=>some (.flt b)
 | .ref a=>some (.ref a)
 | .type n=>some (.ty n)
 | _=>none
theorem RelV.abs {x:V}{u:Value}(r:RelV x u):absV u=some x:=by
 cases x with
 | non=>cases r;rfl
 | bl _=>cases r;rfl
 | int _=>obtain⟨t,rfl⟩:=r;rfl
 | str _=>obtain⟨t,rfl⟩:=r;rfl
 | byt _=>obtain⟨t,rfl⟩:=r;rfl
 | flt _=>obtain⟨t,rfl⟩:=r;rfl
 | ref _=>cases r;rfl
 | ty _=>cases r;rfl
theorem RelV.inj {x y:V}{u:Value}(r:RelV x u)(q:RelV y u):x=y:=Option.some.inj (r.abs.symm.trans q.abs)
theorem Vals.inj:∀ {xs ys:List V} {us:List Value},Vals xs us->Vals ys us->xs=ys
 | _,_,_,.nil,.nil=>rfl
 | _,_,_,.cons r t,.cons r' t'=>by rw[r.inj r',Vals.inj t t']
section
variable {X:Cx}{pins:List (Addr×Obj)}{σ:St}{H:Hp}{s:Shared}{a:Addr}{xs ys:List V}
theorem SqL.of {K:PySem.W.Frag}(h:H a=some (.lst xs)):SqL K H a xs:=.inl (.inl h)
theorem SqT.of {K:PySem.W.Frag}(h:H a=some (.tup xs)):SqT K H a xs:=.inl (.inl h)
theorem Inv.list (I:Inv X pins σ H s)(h:SqL X.K H a xs):∃its:List Value,Vals xs its/\PlainL s.heap a its.toArray/\xs.length<=sizeLine:=by
 rcases h with h | ⟨o,its,n,hk,hc,hd,hs,hz,r⟩
 ·obtain⟨z,its,n,r,e⟩:=h.ok I.hok
  exact⟨its,r,⟨_,n,e,rfl,rfl,rfl⟩,z⟩
 ·refine⟨its.toList,r,⟨o,n,I.kIn a o hk,hc,hd,by simpa using hs⟩,?_⟩
  have e:=r.length
  simp only[Array.length_toList]at e
  omega
theorem Inv.tuple (I:Inv X pins σ H s)(h:SqT X.K H a xs):∃its:List Value,Vals xs its/\IsTup s.heap a its.toArray/\xs.length<=sizeLine:=by
 rcases h with h | ⟨o,its,n,hk,hc,hs,hz,r⟩
 ·obtain⟨z,its,r,p⟩:=h.ok I.hok
  exact⟨its,r,p,z⟩
 ·refine⟨its.toList,r,⟨o,I.kIn a o hk,hc,n,by simpa using hs⟩,?_⟩
  have e:=r.length
  simp only[Array.length_toList]at e
  omega
theorem Inv.list_inj (I:Inv X pins σ H s)(h:SqL X.K H a xs)(h':SqL X.K H a ys):xs=ys:=by
 obtain⟨its,r,⟨o,n,e,_,_,d⟩,_⟩:=I.list h
 obtain⟨its',r',⟨o',n',e',_,_,d'⟩,_⟩:=I.list h'
 rw[e]at e';cases e'
 rw[d]at d'
 injection d' with d1 _
 have:its=its':=by simpa using congrArg Array.toList d1
 subst this
 exact r.inj r'
theorem Inv.tuple_inj (I:Inv X pins σ H s)(h:SqT X.K H a xs)(h':SqT X.K H a ys):xs=ys:=by
 obtain⟨its,r,⟨o,e,_,n,d⟩,_⟩:=I.tuple h
 obtain⟨its',r',⟨o',e',_,n',d'⟩,_⟩:=I.tuple h'
 rw[e]at e';cases e'
 rw[d]at d'
 injection d' with d1 _
 have:its=its':=by simpa using congrArg Array.toList d1
 subst this
 exact r.inj r'
end
abbrev Cx.wish (X:Cx)(E:Value->Shared->Prop):Cx:={X with xe:=E}
abbrev Cx.nox (X:Cx):Cx:=X.wish fun _ _=>False
theorem Cx.Ok.wish {X:Cx}(ok:X.Ok)(E:Value->Shared->Prop):(X.wish E).Ok :=
 ⟨ok.mod,ok.kind,ok.glob,ok.blt,ok.above,ok.inj,ok.has,ok.cab,ok.hd,ok.frames,ok.stk,ok.exf,ok.bs,ok.bsz,ok.noex,ok.exfs,ok.funs,ok.frf⟩
theorem Cx.Ok.unwish {X:Cx}{E:Value->Shared->Prop}(ok:(X.wish E).Ok):X.Ok :=
 ⟨ok.mod,ok.kind,ok.glob,ok.blt,ok.above,ok.inj,ok.has,ok.cab,ok.hd,ok.frames,ok.stk,ok.exf,ok.bs,ok.bsz,ok.noex,ok.exfs,ok.funs,ok.frf⟩
section
variable {X:Cx}{pins:List (Addr×Obj)}{σ:St}{H:Hp}{s:Shared}{E:Value->Shared->Prop}
theorem Inv.wish (I:Inv X pins σ H s)(E:Value->Shared->Prop):Inv (X.wish E) pins σ H s:=⟨I.ok.wish E,I.os,I.bare,I.base,I.loc,I.cell,I.free,I.freeC,I.pin,I.hok,I.len⟩
theorem Inv.unwish (I:Inv (X.wish E) pins σ H s):Inv X pins σ H s:=⟨I.ok.unwish,I.os,I.bare,I.base,I.loc,I.cell,I.free,I.freeC,I.pin,I.hok,I.len⟩
theorem SP.unwish {D:Ends}{f:Flow}{s':Shared}(h:SP (X.wish E) pins D f s'):SP X pins D f s':=by
 cases f with
 | next=>obtain⟨σ',H',I,q⟩:=h;exact⟨σ',H',I.unwish,q⟩
 | brk=>obtain⟨σ',H',I,q⟩:=h;exact⟨σ',H',I.unwish,q⟩
 | cont=>obtain⟨σ',H',I,q⟩:=h;exact⟨σ',H',I.unwish,q⟩
 | ret u=>obtain⟨v,σ',H',I,r,q⟩:=h;exact⟨v,σ',H',I.unwish,r,q⟩
theorem PSs.nox {st:List Stmt}{t:TS}(h:PSs X.nox st t):PSs X st t:=fun pins s σ H D I hw =>
 wpAny_mono (h pins s σ H D (I.wish _) hw) (fun _ _ q=>q.unwish) fun _ _ z=>False.elim z
end
section
variable {X:Cx}{st:Stmt}{rest:List Stmt}{t u:TS}{e:Expr}{te:TE}{pos:Pos}
def tNext:TS:=fun D σ H=>D.nx σ H
def tSeq (t u:TS):TS:=fun D σ H=>t {D with nx:=u D} σ H
theorem c0i:PSs X [] tNext:=fun _ _ σ H _ I h=>wpAny_execs_nil ⟨σ,H,I,h⟩
theorem a0f (h1:PS X st t)(h2:PSs X rest u):PSs X (st::rest) (tSeq t u):=by
 intro pins s σ H D I h
 refine wpAny_execs_cons (thn (h1 pins s σ H {D with nx:=u D} I h) fun f s1 q=>?_)
 cases f with
 | next =>
  obtain⟨σ',H',I',q⟩:=q
  exact h2 pins s1 σ' H' D I' q
 | ret v=>exact q
 | brk=>exact q
 | cont=>exact q
theorem a0q (h1:PS X st t):PSs X [st] t:=by
 intro pins s σ H D I h
 refine wpAny_execs_cons (thn (h1 pins s σ H D I h) fun f s1 q=>?_)
 cases f with
 | next=>exact wpAny_execs_nil q
 | ret v=>exact q
 | brk=>exact q
 | cont=>exact q
theorem Inv.quiet {pins:List (Addr×Obj)}{σ:St}{H:Hp}{s:Shared}(I:Inv X pins σ H s):interactive X.env=false:=by simp[interactive,I.ok.kind]
def s0o (te:TE):TS:=fun D σ H=>te σ H fun _ H1=>D.nx σ H1
theorem g0y (he:PE X e te)(hs:swapsWith e none pos.line X.env=pure false:=by rfl):PS X (.Expr e pos) (s0o te):=by
 intro pins s σ H D I h
 exact wpAny_Expr_any (thn (he pins s σ H _ I h) fun v s1 ⟨x,H1,I1,r1,q1⟩=>⟨σ,H1,I1,q1⟩) I.quiet hs
def tRet (te:TE):TS:=fun D σ H=>te σ H D.rt
theorem b0w (he:PE X e te):PS X (.Return (some e) pos) (tRet te):=by
 intro pins s σ H D I h
 exact wpAny_Return_some (thn (he pins s σ H _ I h) fun v s1 ⟨x,H1,I1,r1,q1⟩=>⟨x,σ,H1,I1,r1,q1⟩)
def tIfS (c:TT)(t u:TS):TS:=fun D σ H=>c σ H fun b H1=>if b=true then t D σ H1 else u D σ H1
theorem f0u {c:Expr}{a b:List Stmt}{tc:TT}(hc:PT X c tc)(ha:PSs X a t)(hb:PSs X b u):PS X (.If c a b pos) (tIfS tc t u):=by
 intro pins s σ H D I h
 refine wpAny_If (thn (hc pins s σ H _ I h) fun d s1 ⟨H1,I1,q1⟩=>?_)
 cases d with
 | true=>exact ha pins s1 σ H1 D I1 q1
 | false=>exact hb pins s1 σ H1 D I1 q1
end
abbrev TG:=V->St->Hp->(St->Hp->Prop)->Prop
abbrev TGs:=List V->St->Hp->(St->Hp->Prop)->Prop
def PG (X:Cx)(target:Expr)(t:TG):Prop :=
 ∀(pins:List (Addr×Obj)) (s:Shared) (σ:St) (H:Hp) (v:V) (u:Value) (Q:St->Hp->Prop),Inv X pins σ H s->RelV v u->t v σ H Q ->
  wpAny (model X.prog X.w) X.A (assign target X.env u) (fun _ s'=>∃ σ' H',Inv X pins σ' H' s'/\Q σ' H') X.xe s
def PGs (X:Cx)(ts:List Expr)(t:TGs):Prop :=
 ∀(pins:List (Addr×Obj)) (s:Shared) (σ:St) (H:Hp) (vs:List V) (us:List Value) (Q:St->Hp->Prop),Inv X pins σ H s->Vals vs us->t vs σ H Q ->
  wpAny (model X.prog X.w) X.A (assignInOrder ((assignEach ts X.env).map (·.2)) us) (fun _ s'=>∃ σ' H',Inv X pins σ' H' s'/\Q σ' H') X.xe s
abbrev TIp:=V->V->Hp->VK->Prop
def PIp (X:Cx)(op:Operator)(t:TIp):Prop :=
 ∀(pins:List (Addr×Obj)) (s:Shared) (σ:St) (H:Hp) (x y:V) (v u:Value) (Q:VK),Inv X pins σ H s->RelV x v->RelV y u->t x y H Q ->
  wpAny (model X.prog X.w) X.A (inplaceOp op v u) (EP X pins σ Q) X.xe s
section
variable {X:Cx}{pos:Pos}
def p0e (i:Nat):TG:=fun v σ H Q=>Q (σ.set i (some v)) H
theorem b0b {i:Nat}{x:Str}(hN:X.N.Nodup)(hi:X.N[i]? = some x)(hx:Loc X.env.scope x)(hf:X.fn x=true∨X.env.scope.names.lookup x=some .local:=by first | exact .inl rfl | exact .inr rfl | assumption):PG X (.Name x pos) (p0e i):=by
 intro pins s σ H v u Q I r h
 exact wpAny_assign_Name (k0x I hN hi hx r (fun s' I'=>⟨_,H,I',h⟩) hf)
def gNil:TGs:=fun vs σ H Q=>vs=[]/\Q σ H
def d1b (t:TG)(u:TGs):TGs:=fun vs σ H Q=>∃v r,vs=v::r/\t v σ H fun σ' H'=>u r σ' H' Q
theorem o0q:PGs X [] gNil:=by
 intro pins s σ H vs us Q I r h
 obtain⟨e,h⟩:=h
 subst e
 cases r
 exact assignInOrder_nil ⟨σ,H,I,h⟩
theorem f0j {e:Expr}{es:List Expr}{t:TG}{u:TGs}(h1:PG X e t)(h2:PGs X es u)
  (hs:(assignEach (e::es) X.env).map (·.2)=assign e X.env::(assignEach es X.env).map (·.2):=by rfl):PGs X (e::es) (d1b t u):=by
 intro pins s σ H vs us Q I r h
 obtain⟨v,vr,e1,h⟩:=h
 subst e1
 cases r with
 | cons r rr =>
  rw[hs]
  refine assignInOrder_cons (thn (h1 pins s σ H _ _ _ I r h) fun _ s1 ⟨σ1,H1,I1,q1⟩=>?_)
  exact h2 pins s1 σ1 H1 _ _ Q I1 rr q1
def gTup (K:PySem.W.Frag)(n:Nat)(t:TGs):TG:=fun v σ H Q=>∃a xs,v = .ref a/\SqT K H a xs/\xs.length=n/\t xs σ H Q
theorem b1x {es:List Expr}{k:Nat}{t:TGs}{n:Nat}(hc:X.calm=true)(h:PGs X es t)
  (hn:(assignEach es X.env).length=n:=by rfl) (hst:(assignEach es X.env).findIdx? (·.1)=none:=by rfl):PG X (.Tuple es k pos) (gTup X.K n t):=by
 intro pins s σ H v u Q I r hw
 obtain⟨a,xs,e1,hq,hl,hw⟩:=hw
 subst e1
 cases r
 obtain⟨its,rv,ht,hz⟩:=I.tuple hq
 refine assign_Tuple_tuple (I.ok.hd hc) ht (by simp[hn,<- hl,rv.length]) hst fun h' hx=>?_
 have I1:Inv X pins σ H {s with heap:=h'}:=I.kept (t':=s.toks) fun b o e=>hx b o (Nat.ne_of_lt (Heap.lt_size e)) e
 exact h pins _ σ H xs _ Q I1 (by simpa using rv) hw
def tAsg (te:TE)(g:TG):TS:=fun D σ H=>te σ H fun x H1=>g x σ H1 D.nx
theorem b1v {tg e:Expr}{te:TE}{g:TG}(he:PE X e te)(hg:PG X tg g)(hs:swapsWithSole [tg] e pos.line X.env=pure false:=by rfl)(hw:swappedStores [tg] e X.env=pure none:=by rfl)
  (h1:(assignEach [tg] X.env).map (·.2)=[assign tg X.env]:=by rfl):PS X (.Assign [tg] e pos) (tAsg te g):=by
 intro pins s σ H D I h
 refine wpAny_Assign_stores (thn (he pins s σ H _ I h) fun v s1 ⟨x,H1,I1,r1,q1⟩=>?_) hs hw
 rw[h1]
 exact thn (hg pins s1 σ H1 x v _ I1 r1 q1) fun _ s2 q=>q
theorem a0z {i:Nat}{x:Str}{e:Expr}{te:TE}{pos':Pos}(hN:X.N.Nodup)(hi:X.N[i]? = some x)(hx:Loc X.env.scope x)(he:PE X e te)(hs:swapsWith e (some (.Name x pos')) pos.line X.env=pure false:=by rfl)(hf:X.fn x=true∨X.env.scope.names.lookup x=some .local:=by first | exact .inl rfl | exact .inr rfl | assumption) :
  PS X (.Assign [.Name x pos'] e pos) (tAsg te (p0e i)):=by
 intro pins s σ H D I h
 refine wpAny_Assign_Name (thn (he pins s σ H _ I h) fun v s1 ⟨y,H1,I1,r1,q1⟩=>?_) hs
 exact k0x I1 hN hi hx r1 (fun s2 I2=>⟨_,H1,I2,q1⟩) hf
def tAug (i:Nat)(te:TE)(ti:TIp):TS:=fun D σ H=>∃x,σ[i]? = some (some x)/\te σ H fun y H1=>ti x y H1 fun z H2=>D.nx (σ.set i (some z)) H2
theorem b1u {i:Nat}{x:Str}{e:Expr}{te:TE}{op:Operator}{ti:TIp}{pos':Pos}(hN:X.N.Nodup)(hi:X.N[i]? = some x)(hx:Loc X.env.scope x)(he:PE X e te)(ho:PIp X op ti)(hf:X.fn x=true∨X.env.scope.names.lookup x=some .local:=by first | exact .inl rfl | exact .inr rfl | assumption) :
  PS X (.AugAssign (.Name x pos') op e pos) (tAug i te ti):=by
 intro pins s σ H D I h
 obtain⟨v,e1,h⟩:=h
 obtain⟨m,hn,hl⟩:=I.loc
 have vis:Vis X.env.scope x:=by rcases hx with k | k;exact .inl k;exact .inr (.inl k)
 obtain⟨u,r,l⟩:=hl i x v hi e1 vis
 refine wpAny_AugAssign_Name ?_
 have go:wpAny (model X.prog X.w) X.A (eval e X.env) (fun w s₂=>wpAny (model X.prog X.w) X.A (inplaceOp op u w) (fun r s₃=>wpAny (model X.prog X.w) X.A (storeName X.env x r) (fun _=>SP X pins D .next) X.xe s₃) X.xe s₂) X.xe s:=by
  refine thn (he pins s σ H _ I h) fun w s1 ⟨y,H1,I1,r1,q1⟩=>?_
  refine thn (ho pins s1 σ H1 v y u w _ I1 r r1 q1) fun z s2 ⟨zv,H2,I2,r2,q2⟩=>?_
  exact k0x I2 hN hi hx r2 (fun s3 I3=>⟨_,H2,I3,q2⟩) hf
 rcases l with⟨hk,hm⟩ | ⟨hk,c,hc,hcell⟩
 ·exact wpAny_loadName_local I.ok.kind hk hn hm go
 ·rcases hk with hk | hk
  ·exact wpAny_loadName_cell I.ok.kind hk hc hcell go
  ·rcases hx with k | k
   ·have:X.env.scope.names.lookup x=some .free:=hk
    rw[k]at this;cases this
   ·have:X.env.scope.names.lookup x=some .free:=hk
    rw[k]at this;cases this
def ipI (f:Int->Int->Int):TIp:=fun x y H Q=>∃i j,x = .int i/\y = .int j/\Q (.int (f i j)) H
end
section
variable {X:Cx}{pos:Pos}
def x0i (c:TT)(tb:TS):TS:=fun D σ H=>∃W:Nat->St->Hp->Prop,(∃m,W m σ H)/\∀m σ H,W m σ H ->
 c σ H fun b H1=>if b=true then ∃N:St->Hp->Prop,(∀ σ' H',N σ' H'->∃m',m'<m/\W m' σ' H')/\tb {D with nx:=N,ct:=N,bk:=D.nx} σ H1 else D.nx σ H1
theorem v0z {c:Expr}{body:List Stmt}{tc:TT}{tb:TS}(hp:PassesOwn (model X.prog X.w) X.A X.env X.xe)(hc:PT X c tc)(hb:PSs X body tb):PS X (.While c body [] pos) (x0i tc tb):=by
 intro pins s σ H D I h
 obtain⟨W,⟨m0,w0⟩,turn⟩:=h
 refine wpAny_While (codeAny_whileLoop (fun n s'=>∃ σ' H',Inv X pins σ' H' s'/\W n σ' H') ?_ m0 ⟨σ,H,I,w0⟩)
 rintro n s1 ⟨σ1,H1,I1,w1⟩
 refine wpAny_passesOwn hp (thn (hc pins s1 σ1 H1 _ I1 (turn n σ1 H1 w1)) fun b s2 ⟨H2,I2,q2⟩=>?_)
 cases b with
 | true =>
  obtain⟨N,hN,q2⟩:=q2
  rw[if_pos rfl]
  refine wpAny_passesOwn hp (thn (hb pins s2 σ1 H2 _ I2 q2) fun f s3 q3=>?_)
  cases f with
  | next =>
   obtain⟨σ3,H3,I3,n3⟩:=q3
   obtain⟨m',hm,w3⟩:=hN σ3 H3 n3
   exact⟨m',hm,σ3,H3,I3,w3⟩
  | cont =>
   obtain⟨σ3,H3,I3,n3⟩:=q3
   obtain⟨m',hm,w3⟩:=hN σ3 H3 n3
   exact⟨m',hm,σ3,H3,I3,w3⟩
  | brk=>exact q3
  | ret v=>exact q3
 | false =>
  rw[if_neg Bool.false_ne_true]
  exact wpAny_execs_nil ⟨σ1,H2,I2,q2⟩
end
structure It where
 go:Nat->Hp->Prop
 yld:Nat->Hp->V->Hp->Prop
 stop:Nat->Hp->Prop
def FpOk (X:Cx)(pins:List (Addr×Obj))(H:Hp)(b:Addr):Prop :=
 H b=none/\b≠X.env.locals/\b∉X.fs/\(b∈X.ex∨X.s₀.heap.objs.size<=b)/\(∀x c,X.env.cells.lookup x=some c->c≠b)/\∀p∈X.pn++pins,p.1≠b
theorem Inv.fpOk {X:Cx}{pins:List (Addr×Obj)}{σ:St}{H H':Hp}{s:Shared}{b:Addr}(I:Inv X pins σ H s)(hb:s.heap.objs.size<=b)(hn:H' b=none):FpOk X pins H' b:=by
 refine⟨hn,Nat.ne_of_gt (Nat.lt_of_lt_of_le I.lt hb),I.nofs hb,.inr (Nat.le_trans I.sz hb),fun x c e z=>?_,fun p hp z=>?_⟩
 ·obtain⟨v,q⟩:=I.cell x c e
  exact absurd (Nat.lt_of_lt_of_le q.lt (by rw[z];exact hb)) (Nat.lt_irrefl _)
 ·exact absurd (Nat.lt_of_lt_of_le (Heap.lt_size (I.pin p hp).1) (by rw[z];exact hb)) (Nat.lt_irrefl _)
structure Turn (P:Program)(w:World)(K:PySem.W.Frag)(tg:Expr)(J:It)(fp:List Addr)(it:Addr)(tn:Nat->Heap->Prop):Prop where
 mem:it∈fp
 obj:∀i h,tn i h->∀b∈fp,∃o,h.get? b=some o/\∀v,o.data ≠ .cell v
 keep:∀i h h',tn i h->(∀b∈fp,∀o,h.get? b=some o->h'.get? b=some o)->tn i h'
 item:∀(X:Cx),X.prog=P->X.w=w->X.K=K->X.calm=true->∀(i:Nat) (pins:List (Addr×Obj)) (s:Shared) (σ:St) (H:Hp) (E:Value->Shared->Prop),Inv X pins σ H s->(∀b∈fp,FpOk X pins H b)->tn i s.heap->J.go i H ->
  wpAny (model P w) X.A (pyNext (.ref it)) (fun r s1=>∃u,r=some u /\
   wpAny (model P w) X.A (letOwnedTupleGo tg (.ref it) u) (fun _ s2=>∃x H',Inv X pins σ H' s2/\RelV x u/\J.yld i H x H'/\tn (i+1) s2.heap/\∀b∈fp,H' b=none) E s1) E s
 done:∀(X:Cx),X.prog=P->X.w=w->X.K=K->X.calm=true->∀(i:Nat) (pins:List (Addr×Obj)) (s:Shared) (σ:St) (H:Hp) (E:Value->Shared->Prop),Inv X pins σ H s->(∀b∈fp,FpOk X pins H b)->tn i s.heap->J.stop i H ->
  wpAny (model P w) X.A (pyNext (.ref it)) (fun r s1=>r=none/\Inv X pins σ H s1) E s
 self:∀(A:Around) (i:Nat) (s:Shared) (Q:Value->Shared->Prop) (E:Value->Shared->Prop),tn i s.heap->Q (.ref it) s->wpAny (model P w) A (pyIter (.ref it)) Q E s
abbrev TI:=St->Hp->(It->Hp->Prop)->Prop
def PIE (X:Cx)(pins:List (Addr×Obj))(σ:St)(tg:Expr)(R:It->Hp->Prop)(itv:Value)(s2:Shared):Prop :=
 ∃(it:Addr) (fp:List Addr) (tn:Nat->Heap->Prop) (J:It) (H':Hp),itv = .ref it/\Inv X pins σ H' s2/\Turn X.prog X.w X.K tg J fp it tn/\tn 0 s2.heap/\(∀b∈fp,FpOk X pins H' b)/\R J H'
def PI (X:Cx)(tg iter:Expr)(wi:TI):Prop :=
 ∀(pins:List (Addr×Obj)) (s:Shared) (σ:St) (H:Hp) (R:It->Hp->Prop),Inv X pins σ H s->wi σ H R ->
  wpAny (model X.prog X.w) X.A (eval iter X.env) (fun v s1=>wpAny (model X.prog X.w) X.A (pyIter v) (PIE X pins σ tg R) X.xe s1) X.xe s
theorem z0n {M:Model}{A:Around}{E:Value->Shared->Prop}{s:Shared}{tg:Expr}{it:Addr}{u:Value}{o:Obj}{n:String}{vs:Array Value}{Q:Unit->Shared->Prop}(ho:s.heap.get? it=some o)(hc:o.cls = .type n)(hd:o.data = .fields vs)
  (hn:["enumerate", "zip", "dict_itemiterator", "dict_reverseitemiterator", "odict_iterator", "itertools.zip_longest", "itertools.pairwise"].contains n=false) (hQ:Q () s):wpAny M A (letOwnedTupleGo tg (.ref it) u) Q E s:=by
 unfold letOwnedTupleGo
 cases tg <;> first
  | exact wpAny_pure hQ
  | (cases u <;> first
    | exact wpAny_pure hQ
    | (refine wpAny_bind (wpAny_load ho ?_);rw[hc,hd];show wpAny M A (if(["enumerate", "zip", "dict_itemiterator", "dict_reverseitemiterator", "odict_iterator", "itertools.zip_longest", "itertools.pairwise"].contains n&&vs[0]? == some (rawInt _))=true then _ else _) Q E s;rw[if_neg (by intro h;rw[hn,Bool.false_and]at h;cases h)];exact wpAny_pure hQ))
def Itl (K:PySem.W.Frag)(a:Addr):It :=
 ⟨fun i H=>∃xs x,SqL K H a xs/\xs[i]? = some x,fun i H x H'=>H'=H/\∀xs,SqL K H a xs->xs[i]? = some x,fun i H=>∃xs,SqL K H a xs/\xs.length<=i⟩
def Itt (K:PySem.W.Frag)(a:Addr):It :=
 ⟨fun i H=>∃xs x,SqT K H a xs/\xs[i]? = some x,fun i H x H'=>H'=H/\∀xs,SqT K H a xs->xs[i]? = some x,fun i H=>∃xs,SqT K H a xs/\xs.length<=i⟩
def Itr (lo:Int)(n:Nat):It:=⟨fun i _=>i<n,fun i H x H'=>H'=H/\x = .int (lo+i),fun i _=>n<=i⟩
theorem s0b {P:Program}{w:World}{K:PySem.W.Frag}{tg:Expr}(a it:Addr):Turn P w K tg (Itl K a) [it] it (fun i h=>h.IsListIter it a i) where
 mem:=by simp
 obj:=fun i h st b hb=>by
  have e:b=it:=by simpa using hb
  subst e
  obtain⟨o,e,c,d⟩:=st
  exact⟨o,e,fun v z=>by rw[d]at z;cases z⟩
 keep:=fun i h h' st k=>st.at fun o e=>k it (by simp) o e
 item:=by
  intro X hP hw hK hc i pins s σ H E I hf st hg
  subst hP hw hK
  obtain⟨xs,x,hq,hx⟩:=hg
  obtain⟨its,rv,p,hz⟩:=I.list hq
  obtain⟨u,hu,ru⟩:=rv.get hx
  obtain⟨f0,f1,f2,f3,f4,f5⟩:=hf it (by simp)
  refine wpAny_pyNext_list_item st p.isList (x:=u) (by simpa using hu) fun h' st' sb=>?_
  have I1:Inv X pins σ H {s with heap:=h'}:=I.turned (t':=s.toks) (fun b o hb e=>(sb.2 b hb).trans e) f0 f1 f3 f4 f5
  obtain⟨o,e,c,d⟩:=id st'
  exact⟨u,rfl,z0n (s:={s with heap:=h'}) e c d (by decide) ⟨x,H,I1,ru,⟨rfl,fun ys hy=>by rw[I.list_inj hy hq];exact hx⟩,st',fun b hb=>(hf b hb).1⟩⟩
 done:=by
  intro X hP hw hK hc i pins s σ H E I hf st hg
  subst hP hw hK
  obtain⟨xs,hq,hx⟩:=hg
  obtain⟨its,rv,p,hz⟩:=I.list hq
  obtain⟨f0,f1,f2,f3,f4,f5⟩:=hf it (by simp)
  have hl:=rv.length
  exact wpAny_pyNext_list_end (I.ok.hd hc) st p.isList (by simp;omega) fun h' eb=>⟨rfl,I.turned (t':=s.toks) (fun b o hb e=>eb b o hb e) f0 f1 f3 f4 f5⟩
 self:=fun _ _ _ _ _ st h=>wpAny_pyIter_listiter st h
theorem r0d {P:Program}{w:World}{K:PySem.W.Frag}{tg:Expr}(a it:Addr):Turn P w K tg (Itt K a) [it] it (fun i h=>h.IsTupleIter it a i) where
 mem:=by simp
 obj:=fun i h st b hb=>by
  have e:b=it:=by simpa using hb
  subst e
  obtain⟨o,e,c,d⟩:=st
  exact⟨o,e,fun v z=>by rw[d]at z;cases z⟩
 keep:=fun i h h' st k=>st.at fun o e=>k it (by simp) o e
 item:=by
  intro X hP hw hK hc i pins s σ H E I hf st hg
  subst hP hw hK
  obtain⟨xs,x,hq,hx⟩:=hg
  obtain⟨its,rv,p,hz⟩:=I.tuple hq
  obtain⟨u,hu,ru⟩:=rv.get hx
  obtain⟨f0,f1,f2,f3,f4,f5⟩:=hf it (by simp)
  refine wpAny_pyNext_tuple_item st (show s.heap.IsTuple a its.toArray from p) (x:=u) (by simpa using hu) fun h' st' sb=>?_
  have I1:Inv X pins σ H {s with heap:=h'}:=I.turned (t':=s.toks) (fun b o hb e=>(sb.2 b hb).trans e) f0 f1 f3 f4 f5
  obtain⟨o,e,c,d⟩:=id st'
  exact⟨u,rfl,z0n (s:={s with heap:=h'}) e c d (by decide) ⟨x,H,I1,ru,⟨rfl,fun ys hy=>by rw[I.tuple_inj hy hq];exact hx⟩,st',fun b hb=>(hf b hb).1⟩⟩
 done:=by
  intro X hP hw hK hc i pins s σ H E I hf st hg
  subst hP hw hK
  obtain⟨xs,hq,hx⟩:=hg
  obtain⟨its,rv,p,hz⟩:=I.tuple hq
  obtain⟨f0,f1,f2,f3,f4,f5⟩:=hf it (by simp)
  have hl:=rv.length
  exact wpAny_pyNext_tuple_end (I.ok.hd hc) st (show s.heap.IsTuple a its.toArray from p) (by simp;omega) fun h' eb=>⟨rfl,I.turned (t':=s.toks) (fun b o hb e=>eb b o hb e) f0 f1 f3 f4 f5⟩
 self:=fun _ _ _ _ _ st h=>wpAny_pyIter_tupleiter st h
theorem r0e {P:Program}{w:World}{K:PySem.W.Frag}{tg:Expr}(it:Addr)(lo:Int)(n:Nat):Turn P w K tg (Itr lo n) [it] it (fun i h=>IsRangeIter h it (lo+(i:Nat)*1) ((n:Int) - (i:Nat)) 1) where
 mem:=by simp
 obj:=fun i h st b hb=>by
  have e:b=it:=by simpa using hb
  subst e
  exact⟨_,st,fun v z=>by
   have z':Data.fields _=Data.cell v:=z
   cases z'⟩
 keep:=fun i h h' st k=>k it (by simp) _ st
 item:=by
  intro X hP hw hK hc i pins s σ H E I hf st hg
  subst hP hw hK
  obtain⟨f0,f1,f2,f3,f4,f5⟩:=hf it (by simp)
  have W:=Walks.range (prog:=X.prog) (w:=X.w) (I.ok.hd hc) it lo 1 n
  refine W.item i s _ _ hg st fun v h' tk hv st' kk=>?_
  obtain⟨t,rfl⟩:=hv
  have I1:Inv X pins σ H {s with heap:=h',toks:=tk}:=I.turned (fun b o hb e=>kk b o (by simpa using hb) e) f0 f1 f3 f4 f5
  refine⟨_,rfl,z0n (s:={s with heap:=h',toks:=tk}) (n := "range_iterator") st' rfl rfl (by decide) ⟨.int (lo+i),H,I1,⟨t,?_⟩,⟨rfl,rfl⟩,st',fun b hb=>(hf b hb).1⟩⟩
  rw[Int.mul_one]
 done:=by
  intro X hP hw hK hc i pins s σ H E I hf st hg
  subst hP hw hK
  obtain⟨f0,f1,f2,f3,f4,f5⟩:=hf it (by simp)
  exact wpAny_pyNext_range_end (I.ok.hd hc) st (by have:n<=i:=hg;omega) fun h' eb=>⟨rfl,I.turned (t':=s.toks) (fun b o hb e=>eb b o hb e) f0 f1 f3 f4 f5⟩
 self:=fun _ _ _ _ _ st h=>wpAny_pyIter_rangeiter st h
section
variable {X:Cx}{tg:Expr}
theorem v0w {pins:List (Addr×Obj)}{σ:St}{H:Hp}{s:Shared}{R:It->Hp->Prop}{E:Value->Shared->Prop}{lo hi:Int}{t u v:Tok}{tk:Nat}(I:Inv X pins σ H s)(h1:-(2^62)<=lo)(h2:lo<2^62)(h3:-(2^62)<=hi)(h4:hi<2^62)
  (q:R (Itr lo (hi - lo).toNat) H):wpAny (model X.prog X.w) X.A (pyIter (.ref s.heap.objs.size)) (PIE X pins σ tg R) E {s with heap:=s.heap.push {cls:=.type "range",data:=.fields #[.int lo t,.int hi u,.int 1 v]},toks:=tk}:=by
 refine wpAny_pyIter_range (IsRange.new ..) (small_one h1 h2 h3 h4) ?_
 have I1:Inv X pins σ H {s with heap:=s.heap.push {cls:=.type "range",data:=.fields #[.int lo t,.int hi u,.int 1 v]},toks:=tk}:=I.kept fun b o e=>Heap.get?_push_of_some _ e
 refine⟨(s.heap.push {cls:=.type "range",data:=.fields #[.int lo t,.int hi u,.int 1 v]}).objs.size,[(s.heap.push {cls:=.type "range",data:=.fields #[.int lo t,.int hi u,.int 1 v]}).objs.size],_,_,H,rfl,
  I1.kept (t':=tk) fun b o e=>Heap.get?_push_of_some _ e,r0e _ lo (hi - lo).toNat,?_,fun b hb=>?_,q⟩
 ·have e1:lo+((0:Nat):Int)*1=lo:=by simp
  have e2:(((hi - lo).toNat:Nat):Int) - ((0:Nat):Int)=Builtin.Range.rangeSize lo hi 1:=by rw[rangeSize_one];split <;> omega
  show IsRangeIter _ _ (lo+((0:Nat):Int)*1) ((((hi - lo).toNat:Nat):Int) - ((0:Nat):Int)) 1
  rw[e1,e2]
  exact Heap.get?_push_size _ rfl
 ·have e:b=(s.heap.push {cls:=.type "range",data:=.fields #[.int lo t,.int hi u,.int 1 v]}).objs.size:=by simpa using hb
  subst e
  exact I1.fpOk (Nat.le_refl _) (I1.hok.fresh (Nat.le_refl _))
def c1w (ta:TA):TI:=fun σ H R=>ta σ H fun vs H1=>∃j:Int,vs=[.int j]/\-(2^62)<=j/\j<2^62/\R (Itr 0 j.toNat) H1
theorem c0q {a:Expr}{ta:TA}{p pos:Pos}(hg:Gl X "range")(hm:X.mg "range" = none)(ha:PA X [a] ta)(hs:starEach [a] X.env=[(false,eval a X.env)]:=by rfl):PI X tg (.Call (.Name "range" p) [a] [] pos) (c1w ta):=by
 intro pins s σ H R I h
 refine Call_ (n0d I hg hm boot_range (PyProof.Rows.callWith_type1 (thn (ha pos pins s σ H _ I h) fun us s1 ⟨vs,H1,I1,r1,q1⟩=>?_) hs rfl))
 obtain⟨j,e,q1,q2,q⟩:=q1
 subst e
 cases r1 with
 | cons r rr =>
  cases rr
  obtain⟨t,rfl⟩:=r
  exact call_range_1 (v0w I1 (by omega) (by omega) q1 q2 (by simpa using q))
def tFor (wi:TI)(g:TG)(tb:TS):TS:=fun D σ H=>wi σ H fun J H1=>∃W:Nat->Nat->St->Hp->Prop,(∃m,W 0 m σ H1)/\∀i m σ H,W i m σ H ->
 (J.stop i H/\D.nx σ H)∨(J.go i H/\∃N:St->Hp->Prop,(∀ σ' H',N σ' H'->∃m',m'<m/\W (i+1) m' σ' H')/\∀x H',J.yld i H x H'->g x σ H' fun σ2 H2=>tb {D with nx:=N,ct:=N,bk:=D.nx} σ2 H2)
def e0z (fp:List Addr)(h:Heap):List (Addr×Obj):=fp.filterMap fun b=>(h.get? b).map fun o=>(b,o)
theorem b0s {fp:List Addr}{h:Heap}{b:Addr}{o:Obj}(hb:b∈fp)(e:h.get? b=some o):(b,o)∈e0z fp h:=List.mem_filterMap.mpr ⟨b,hb,by rw[e];rfl⟩
theorem m0x {fp:List Addr}{h:Heap}{p:Addr×Obj}(hp:p∈e0z fp h):p.1∈fp/\h.get? p.1=some p.2:=by
 obtain⟨b,hb,e⟩:=List.mem_filterMap.mp hp
 cases q:h.get? b with
 | none=>rw[q]at e;cases e
 | some o =>
  rw[q]at e
  have e':(b,o)=p:=Option.some.inj e
  subst e'
  exact⟨hb,q⟩
theorem Inv.pinned {pins:List (Addr×Obj)}{σ:St}{H:Hp}{s:Shared}{fp:List Addr}(I:Inv X pins σ H s)(hf:∀b∈fp,FpOk X pins H b)(ho:∀b∈fp,∃o,s.heap.get? b=some o/\∀v,o.data ≠ .cell v):Inv X (pins++e0z fp s.heap) σ H s :=
 I.pins_of fun p hp=>(List.mem_append.mp hp).elim (fun z=>I.pin p (List.mem_append_right _ z)) fun z=>by
  obtain⟨hb,e⟩:=m0x z
  obtain⟨f0,f1,f2,_⟩:=hf p.1 hb
  obtain⟨o,e',d⟩:=ho p.1 hb
  rw[e]at e';cases e'
  exact⟨e,f0,f1,f2,d⟩
theorem Inv.unpinned {pins pl:List (Addr×Obj)}{σ:St}{H:Hp}{s:Shared}(I:Inv X (pins++pl) σ H s):Inv X pins σ H s:=I.pins_of fun p hp=>I.pin p (List.mem_append_right _ (List.mem_append_left _ hp))
theorem i0i {iter:Expr}{body:List Stmt}{wi:TI}{g:TG}{tb:TS}{pos:Pos}(hp:PassesOwn (model X.prog X.w) X.A X.env X.xe)(hc:X.calm=true)(hi:PI X tg iter wi)(hg:PG X tg g)(hb:PSs X body tb)
  (hs:∀x,foldedSetIterable iter X.env x=pure x:=by intro _;rfl):PS X (.For tg iter body [] pos) (tFor wi g tb):=by
 intro pins s σ H D I h
 refine wpAny_For (thn (hi pins s σ H _ I h) fun v s1 h1=>thn h1 fun itv s2 h2=>?_) hs
 obtain⟨it,fp,tn,J,H2,e,I2,T,st2,f2,W,⟨m0,w0⟩,turn⟩:=h2
 subst e
 have stat:∀ {H':Hp},(∀b∈fp,H' b=none)->∀b∈fp,FpOk X pins H' b:=fun hn b hb=>⟨hn b hb,(f2 b hb).2⟩
 refine codeAny_forLoop_any (fun n s'=>∃i σ' H',Inv X pins σ' H' s'/\tn i s'.heap/\(∀b∈fp,H' b=none)/\W i n σ' H') ?_ m0 ⟨0,σ,H2,I2,st2,fun b hb=>(f2 b hb).1,w0⟩
 rintro n s3 ⟨i,σ3,H3,I3,st3,fr3,w3⟩
 rcases turn i n σ3 H3 w3 with⟨stop,qn⟩ | ⟨go,N,hN,step⟩
 ·refine wpAny_passesOwn hp (thn (T.done X rfl rfl rfl hc i pins s3 σ3 H3 X.xe I3 (stat fr3) st3 stop) fun r s4 ⟨hr,I4⟩=>?_)
  subst hr
  exact wpAny_execs_nil ⟨σ3,H3,I4,qn⟩
 ·refine wpAny_passesOwn hp (thn (T.item X rfl rfl rfl hc i pins s3 σ3 H3 X.xe I3 (stat fr3) st3 go) fun r s4 ⟨u,hr,h4⟩=>?_)
  subst hr
  refine wpAny_passesOwn hp (thn h4 fun _ s5 ⟨x,H5,I5,r5,y5,st5,fr5⟩=>?_)
  have I5':=I5.pinned (stat fr5) (T.obj _ _ st5)
  refine wpAny_passesOwn hp (thn (hg _ s5 σ3 H5 x u _ I5' r5 (step x H5 y5)) fun _ s6 ⟨σ6,H6,I6,q6⟩=>?_)
  refine wpAny_passesOwn hp (thn (hb _ s6 σ6 H6 _ I6 q6) fun f s7 q7=>?_)
  have again:∀ {σ7:St} {H7:Hp},Inv X (pins++e0z fp s5.heap) σ7 H7 s7->N σ7 H7->∃m,m<n/\∃i σ' H',Inv X pins σ' H' s7/\tn i s7.heap/\(∀b∈fp,H' b=none)/\W i m σ' H':=fun{σ7 H7} I7 n7=>by
   obtain⟨m',hm,w7⟩:=hN σ7 H7 n7
   refine⟨m',hm,i+1,σ7,H7,I7.unpinned,T.keep _ _ _ st5 fun b hb o e=>(I7.pin (b,o) (List.mem_append_right _ (List.mem_append_right _ (b0s hb e)))).1,fun b hb=>?_,w7⟩
   obtain⟨o,e,d⟩:=T.obj _ _ st5 b hb
   exact(I7.pin (b,o) (List.mem_append_right _ (List.mem_append_right _ (b0s hb e)))).2.1
  cases f with
  | next=>obtain⟨σ7,H7,I7,n7⟩:=q7;exact again I7 n7
  | cont=>obtain⟨σ7,H7,I7,n7⟩:=q7;exact again I7 n7
  | brk=>obtain⟨σ7,H7,I7,q7⟩:=q7;exact⟨σ7,H7,I7.unpinned,q7⟩
  | ret v=>obtain⟨x7,σ7,H7,I7,r7,q7⟩:=q7;exact⟨x7,σ7,H7,I7.unpinned,r7,q7⟩
end
abbrev R2:=V->V->Hp->VK->Prop
def OpR (X:Cx)(f:Value->Value->Sem Value)(r:R2):Prop :=
 ∀(pins:List (Addr×Obj)) (s:Shared) (σ:St) (H:Hp) (x y:V) (v u:Value) (Q:VK),Inv X pins σ H s->RelV x v->RelV y u->r x y H Q ->
  wpAny (model X.prog X.w) X.A (f v u) (EP X pins σ Q) X.xe s
def UnR (X:Cx)(f:Value->Sem Value)(r:V->Hp->VK->Prop):Prop :=
 ∀(pins:List (Addr×Obj)) (s:Shared) (σ:St) (H:Hp) (x:V) (v:Value) (Q:VK),Inv X pins σ H s->RelV x v->r x H Q ->
  wpAny (model X.prog X.w) X.A (f v) (EP X pins σ Q) X.xe s
def h0g (X:Cx)(f:Value)(r:List V->Hp->VK->Prop):Prop :=
 ∀(pins:List (Addr×Obj)) (s:Shared) (σ:St) (H:Hp) (xs:List V) (us:List Value) (Q:VK),Inv X pins σ H s->Vals xs us->r xs H Q ->
  wpAny (model X.prog X.w) X.A (call f us) (EP X pins σ Q) X.xe s
def TruR (X:Cx)(r:V->Hp->(Bool->Hp->Prop)->Prop):Prop :=
 ∀(pins:List (Addr×Obj)) (s:Shared) (σ:St) (H:Hp) (x:V) (v:Value) (Q:Bool->Hp->Prop),Inv X pins σ H s->RelV x v->r x H Q ->
  wpAny (model X.prog X.w) X.A (truthy v) (TP X pins σ Q) X.xe s
def tOp (r:R2)(ta tb:TE):TE:=fun σ H Q=>ta σ H fun x H1=>tb σ H1 fun y H2=>r x y H2 Q
def tUn (r:V->Hp->VK->Prop)(ta:TE):TE:=fun σ H Q=>ta σ H fun x H1=>r x H1 Q
def rI (C:Int->Int->Prop)(g:Int->Int->V):R2:=fun x y H Q=>∃i j,x = .int i/\y = .int j/\C i j/\Q (g i j) H
def rI0 (g:Int->Int->V):R2:=fun x y H Q=>∃i j,x = .int i/\y = .int j/\Q (g i j) H
def rU (g:Int->V):V->Hp->VK->Prop:=fun x H Q=>∃i,x = .int i/\Q (g i) H
section
variable {X:Cx}{a b c:Expr}{ta tb tc:TE}{pos:Pos}
theorem binT (ha:PE X a ta)(hb:PE X b tb){pins:List (Addr×Obj)}{s:Shared}{σ:St}{H:Hp}{R:V->V->Hp->Prop}(I:Inv X pins σ H s)
  (h:ta σ H fun x H1=>tb σ H1 fun y H2=>R x y H2) {Q:Value->Shared->Prop} {f:Value->Value->Sem Value}
  (hf:∀v u s2 x y H2,Inv X pins σ H2 s2->RelV x v->RelV y u->R x y H2->wpAny (model X.prog X.w) X.A (f v u) Q X.xe s2) :
  wpAny (model X.prog X.w) X.A (eval a X.env) (fun v s₁=>wpAny (model X.prog X.w) X.A (eval b X.env) (fun u s₂=>wpAny (model X.prog X.w) X.A (f v u) Q X.xe s₂) X.xe s₁) X.xe s:=by
 refine thn (ha pins s σ H _ I h) fun v s1 ⟨x,H1,I1,r1,q1⟩=>?_
 refine thn (hb pins s1 σ H1 _ I1 q1) fun u s2 ⟨y,H2,I2,r2,q2⟩=>?_
 exact hf v u s2 x y H2 I2 r1 r2 q2
theorem a0x {op:Operator}{r:R2}(ho:OpR X (binaryOp op) r)(ha:PE X a ta)(hb:PE X b tb):PE X (.BinOp a op b pos) (tOp r ta tb):=by
 intro pins s σ H Q I h
 exact wpAny_BinOp (binT ha hb I h fun v u s2 x y H2 I2 rx ry q=>ho pins s2 σ H2 x y v u Q I2 rx ry q)
theorem d1q {op:UnaryOp}{r:V->Hp->VK->Prop}(ho:UnR X (unaryOp op) r)(ha:PE X a ta):PE X (.UnaryOp op a pos) (tUn r ta):=by
 intro pins s σ H Q I h
 exact UnaryOp_ (thn (ha pins s σ H _ I h) fun v s1 ⟨x,H1,I1,r1,q1⟩=>ho pins s1 σ H1 x v Q I1 r1 q1)
theorem opI {f:Value->Value->Sem Value}{C:Int->Int->Prop}{g:Int->Int->Int}
  (rule:∀(i j:Int) (t u:Tok) (s:Shared) (Q:Value->Shared->Prop) (E:Value->Shared->Prop),C i j->Q (.int (g i j) s.toks) {s with toks:=s.toks+1}->wpAny (model X.prog X.w) X.A (f (.int i t) (.int j u)) Q E s) :
  OpR X f (rI C fun i j=>.int (g i j)):=by
 intro pins s σ H x y v u Q I rx ry h
 obtain⟨i,j,rfl,rfl,hc,q⟩:=h
 obtain⟨t,rfl⟩:=rx
 obtain⟨t',rfl⟩:=ry
 exact rule i j t t' s _ _ hc ⟨.int (g i j),H,I.tok _,⟨_,rfl⟩,q⟩
theorem opI0 {f:Value->Value->Sem Value}{g:Int->Int->Int}
  (rule:∀(i j:Int) (t u:Tok) (s:Shared) (Q:Value->Shared->Prop) (E:Value->Shared->Prop),Q (.int (g i j) s.toks) {s with toks:=s.toks+1}->wpAny (model X.prog X.w) X.A (f (.int i t) (.int j u)) Q E s) :
  OpR X f (rI0 fun i j=>.int (g i j)):=by
 intro pins s σ H x y v u Q I rx ry h
 obtain⟨i,j,rfl,rfl,q⟩:=h
 obtain⟨t,rfl⟩:=rx
 obtain⟨t',rfl⟩:=ry
 exact rule i j t t' s _ _ ⟨.int (g i j),H,I.tok _,⟨_,rfl⟩,q⟩
theorem opB0 {f:Value->Value->Sem Value}{g:Int->Int->Bool}
  (rule:∀(i j:Int) (t u:Tok) (s:Shared) (Q:Value->Shared->Prop) (E:Value->Shared->Prop),Q (.bool (g i j)) s->wpAny (model X.prog X.w) X.A (f (.int i t) (.int j u)) Q E s) :
  OpR X f (rI0 fun i j=>.bl (g i j)):=by
 intro pins s σ H x y v u Q I rx ry h
 obtain⟨i,j,rfl,rfl,q⟩:=h
 obtain⟨t,rfl⟩:=rx
 obtain⟨t',rfl⟩:=ry
 exact rule i j t t' s _ _ ⟨.bl (g i j),H,I,rfl,q⟩
def CPow (i j:Int):Prop:=0<=j/\j<=1000000/\i.natAbs<2^64
def CMul (i j:Int):Prop:=(-(2^64)<i/\i<2^64)∨(-(2^64)<j/\j<2^64)
theorem CMul.ok {i j:Int}(h:CMul i j):IntMulOk i j:=by
 rcases h with⟨h1,h2⟩ | ⟨h1,h2⟩
 ·exact .of_left (intBits_le_64 h1 h2)
 ·exact .of_right (intBits_le_64 h1 h2)
theorem r0c (k:Nat):(0:Int)<=2^k:=by
 rw[two_pow_cast]
 exact Int.natCast_nonneg _
theorem e0a:OpR X (binaryOp .Add) (rI0 fun i j=>.int (i+j)):=opI0 fun _ _ _ _ _ _ _ q=>add_int q
theorem h0i:OpR X (binaryOp .Sub) (rI0 fun i j=>.int (i - j)):=opI0 fun _ _ _ _ _ _ _ q=>sub_int q
theorem m0s:OpR X (binaryOp .Mult) (rI CMul fun i j=>.int (i*j)):=opI fun _ _ _ _ _ _ _ hc q=>mul_int q hc.ok
theorem h0j:OpR X (binaryOp .Mod) (rI (fun _ j=>0<j) fun i j=>.int (i % j)):=opI fun i j _ _ _ _ _ hc q=>by
 have h1:(0:Int)<j:=hc
 exact mod_int' (by omega) (by rw[Int.fmod_eq_emod_of_nonneg i (by omega)];exact q)
theorem t0m:OpR X (binaryOp .Pow) (rI CPow fun i j=>.int (i^j.toNat)):=opI fun _ _ _ _ _ _ _ hc q=>pow_int_small hc.1 hc.2.1 hc.2.2 q
theorem k0c:OpR X (binaryOp .LShift) (rI CPow fun i j=>.int (i*2^j.toNat)):=opI fun _ _ _ _ _ _ _ hc q=>lshift_int_small hc.1 hc.2.1 hc.2.2 q
theorem q0h:OpR X (binaryOp .RShift) (rI (fun _ j=>0<=j) fun i j=>.int (i / 2^j.toNat)):=opI fun i j _ _ _ _ _ hc q =>
 rshift_int hc (by rw[Int.fdiv_eq_ediv_of_nonneg i (r0c _)];exact q)
theorem k0d:OpR X (binaryOp .BitAnd) (rI0 fun i j=>.int (Builtin.bitAnd i j)):=opI0 fun _ _ _ _ _ _ _ q=>and_int q
theorem c1d:OpR X (binaryOp .BitOr) (rI0 fun i j=>.int (Builtin.bitOr i j)):=opI0 fun _ _ _ _ _ _ _ q=>or_int q
theorem c1u:OpR X (inplaceOp .BitOr) (rI0 fun i j=>.int (Builtin.bitOr i j)):=opI0 fun _ _ _ _ _ _ _ q=>ior_int q
theorem unI {f:Value->Sem Value}{g:Int->Int}
  (rule:∀(i:Int) (t:Tok) (s:Shared) (Q:Value->Shared->Prop) (E:Value->Shared->Prop),Q (.int (g i) s.toks) {s with toks:=s.toks+1}->wpAny (model X.prog X.w) X.A (f (.int i t)) Q E s) :
  UnR X f (rU fun i=>.int (g i)):=by
 intro pins s σ H x v Q I rx h
 obtain⟨i,rfl,q⟩:=h
 obtain⟨t,rfl⟩:=rx
 exact rule i t s _ _ ⟨.int (g i),H,I.tok _,⟨_,rfl⟩,q⟩
theorem a1z:UnR X (unaryOp .USub) (rU fun i=>.int (-i)):=unI fun _ _ _ _ _ q=>neg_int q
end
section
variable {X:Cx}{a b c:Expr}{ta tb tc:TE}{pos:Pos}
theorem d1u:OpR X (compareOp .Lt) (rI0 fun i j=>.bl (decide (i<j))):=opB0 fun _ _ _ _ _ _ _ q=>lt_int q
theorem t0n:OpR X (compareOp .Gt) (rI0 fun i j=>.bl (decide (j<i))):=opB0 fun _ _ _ _ _ _ _ q=>gt_int q
theorem y0z:OpR X (compareOp .GtE) (rI0 fun i j=>.bl (decide (j<=i))):=opB0 fun _ _ _ _ _ _ _ q=>ge_int q
theorem b0n (b:Expr){op:CmpOp}(h:op ≠ .In:=by decide)(h2:op ≠ .NotIn:=by decide):behindInMarks op b=false:=by
 have e1:(op==CmpOp.In)=false:=by cases op <;> first | rfl | exact absurd rfl h
 have e2:(op==CmpOp.NotIn)=false:=by cases op <;> first | rfl | exact absurd rfl h2
 cases b <;> simp[behindInMarks,e1,e2]
def b1f (t:TE):TT:=fun σ H Q=>t σ H fun x H'=>∃k,x = .bl k/\Q k H'
theorem a0v {op:CmpOp}{r:R2}(ho:OpR X (compareOp op) r)(ha:PE X a ta)(hb:PE X b tb)(hm:behindInMarks op b=false):PT X (.Compare a [op] [b] pos) (b1f (tOp r ta tb)):=by
 intro pins s σ H Q I h
 refine wpAny_isTrue_Compare1 (thn (ha pins s σ H _ I h) fun v s1 ⟨x,H1,I1,r1,q1⟩=>thn (hb pins s1 σ H1 _ I1 q1) fun u s2 ⟨y,H2,I2,r2,q2⟩ =>
  thn (ho pins s2 σ H2 x y v u _ I2 r1 r2 q2) fun c s3 ⟨z,H3,I3,r3,k,e,q3⟩=>?_) hm
 subst e
 cases r3
 exact wpAny_truthy_bool ⟨H3,I3,q3⟩
def TruV (K:PySem.W.Frag)(x:V)(H:Hp)(k:Bool):Prop :=
 match x with
 | .non=>k=false
 | .bl b=>k=b
 | .int i=>k=(i != 0)
 | .str y=>y.length<=sizeLine/\k=((y.length:Int) != 0)
 | .byt y=>y.size<=sizeLine/\k=((y.size:Int) != 0)
 | .ref p=>(∃xs,SqL K H p xs/\k = !xs.isEmpty)∨(∃xs,SqT K H p xs/\k = !xs.isEmpty) ∨ ∃kvs,H p=some (.dK kvs)/\k = !kvs.isEmpty
 | _=>False
theorem r0p {κ:Type}{kvs:List (κ×V)}{vs:List (κ×Value)}(r:KV kvs vs):(!vs.isEmpty) = !kvs.isEmpty:=by
 cases r <;> rfl
theorem k0e {xs:List V}{its:List Value}(r:Vals xs its):(!its.toArray.isEmpty) = !xs.isEmpty:=by
 cases r <;> simp
theorem n0c:(sizeLine:Nat)<2^63:=by rw[sizeLine_eq];decide
theorem b1c:TruR X (fun x H Q=>∃k,TruV X.K x H k/\Q k H):=by
 intro pins s σ H x v Q I rx h
 obtain⟨k,e,q⟩:=h
 have hl:=n0c
 have hs:sizeLine=16777216:=sizeLine_eq
 cases x with
 | non =>
  cases rx
  have e':k=false:=e
  subst e'
  exact truthy_none ⟨H,I,q⟩
 | bl b =>
  cases rx
  have e':k=b:=e
  subst e'
  exact wpAny_truthy_bool ⟨H,I,q⟩
 | int i =>
  obtain⟨t,rfl⟩:=rx
  have e':k=(i != 0):=e
  subst e'
  exact PySem.P.truthy_int ⟨H,I,q⟩
 | str y =>
  obtain⟨t,rfl⟩:=rx
  obtain⟨hy,e'⟩:y.length<=sizeLine/\k=((y.length:Int) != 0):=e
  subst e'
  exact PySem.P.truthy_str (by omega) ⟨H,I.tok _,q⟩
 | byt y =>
  obtain⟨t,rfl⟩:=rx
  obtain⟨hy,e'⟩:y.size<=sizeLine/\k=((y.size:Int) != 0):=e
  subst e'
  exact PySem.W.truthy_bytes (by omega) ⟨H,I.tok _,q⟩
 | ref p =>
  cases rx
  have e':(∃xs,SqL X.K H p xs/\k = !xs.isEmpty)∨(∃xs,SqT X.K H p xs/\k = !xs.isEmpty) ∨ ∃kvs,H p=some (.dK kvs)/\k = !kvs.isEmpty:=e
  rcases e' with⟨xs,hx,e'⟩ | ⟨xs,hx,e'⟩ | ⟨kvs,hx,e'⟩
  ·subst e'
   obtain⟨its,r,pl,hz⟩:=I.list hx
   have hlen:=r.length
   exact wpAny_truthy_list pl.isList (by simp only[List.size_toArray];omega) ⟨H,I.tok _,by rw[k0e r];exact q⟩
  ·subst e'
   obtain⟨its,r,pl,hz⟩:=I.tuple hx
   have hlen:=r.length
   exact truthy_tuple pl (by simp only[List.size_toArray];omega) ⟨H,I.tok _,by rw[k0e r];exact q⟩
  ·subst e'
   obtain⟨hz,hS,vs,r,m⟩:kvs.length<=sizeLine/\(p==sysModules)=false/\∃vs,KV kvs vs/\s.heap.DictOf (c0a X.prog X.w) p vs:=I.hok p _ hx
   have hlen:kvs.length=vs.length:=Paired.length r
   exact wpAny_truthy_dict hS m (by omega) ⟨H,I.tok _,by rw[r0p r];exact q⟩
 | _=>exact(show False from e).elim
theorem v0y (ha:PE X a ta)(he:∀whole,isTrue a X.env whole=(do let v <- whole;standAt a.pos;holding [v] (truthy v))) :
  PT X a (fun σ H Q=>ta σ H fun x H'=>∃k,TruV X.K x H' k/\Q k H'):=by
 intro pins s σ H Q I h
 exact isTrue_plain (thn (ha pins s σ H _ I h) fun v s1 ⟨x,H1,I1,r1,q1⟩=>b1c pins s1 σ H1 x v Q I1 r1 q1) (he _)
theorem m0h {x:V}{us:List Value}(r:Vals [x] us):∃u,us=[u]/\RelV x u:=by
 cases r with
 | cons r1 r2=>cases r2;exact⟨_,rfl,r1⟩
end
structure ObjM (h:Heap)(x dx C:Addr)(mA:Str->Option Value):Prop where
 obj:h.get? x=some (PySem.W.instObj C dx)
 ns:h.Ns1 dx mA
 ne:dx≠x
theorem t0v {h:Heap}{dx:Addr}{mA:Str->Option Value}(n:h.Ns1 dx mA):∃od,h.get? dx=some od/\∀name,PySem.W.lookIn name od=some (mA name):=by
 obtain⟨o,es,ep,ho,hd,hk,_,hm⟩:=n
 refine⟨o,ho,fun name=>?_⟩
 have e:=hm name
 unfold nsFind findBy at e
 rw[<- Array.find?_toList]at e
 unfold PySem.W.lookIn
 rw[hd]
 dsimp only
 split
 ·rename_i y q
  rw[q]at e
  exact congrArg some e
 ·rename_i q
  rw[q]at e
  have a:es.toList.any (·.refKey)=false:=by
   rw[List.any_eq_false]
   intro y hy
   obtain⟨z,t,hkey⟩:=hk y (Array.mem_toList_iff.mp hy)
   simp[DictEntry.refKey,hkey]
  have a':¬es.toList.any (·.refKey)=true:=by rw[a];exact Bool.false_ne_true
  rw[if_neg a']
  exact congrArg some e
theorem ObjM.look {h:Heap}{x dx C:Addr}{mA:Str->Option Value}(I:ObjM h x dx C mA):∃od,PySem.W.InstAt h x (PySem.W.instObj C dx) C (some od)/\∀name,PySem.W.lookIn name od=some (mA name) :=
 let ⟨od,ho,hl⟩:=t0v I.ns
 ⟨od,⟨I.obj,rfl,rfl,ho⟩,hl⟩
theorem RelO.some_of {v:V}{o:Option Value}(r:RelO (some v) o):∃u,o=some u/\RelV v u:=by
 cases o with
 | none=>exact(show False from r).elim
 | some u=>exact⟨u,rfl,r⟩
section
variable {P:Program}{w:World}{H H':Hp}{h h':Heap}{a C dx:Addr}{fs fs':List (Str×V)}
theorem z0l (hok:HOk P w H h)(e:H a=some (.ins C dx fs)):∃mA,ObjM h a dx C mA/\(∀f,RelO (fs.lookup f) (mA f))/\PySem.Within mA (fs.map (·.1))/\fs.length<=1000/\H dx=some (.own a):=by
 obtain⟨d,z,ne,ob,mA,n,r,q⟩:=(show c0s P w H h a (.ins C dx fs)from hok a _ e)
 exact⟨mA,⟨ob,n,ne⟩,r,q,z,d⟩
end
structure Cls (K:PySem.W.Frag)(C:Addr):Prop where
 pg:PySem.W.plainGet K C Str.empty=true
 hd:PySem.W.hasDictIn K C=true
 po:PySem.W.plainOver K C=true
 sa:PySem.W.findIn K (.ref C) "__setattr__" = some (some (.builtin "object.__setattr__"))
theorem Cls.get {K:PySem.W.Frag}{C:Addr}(c:Cls K C)(f:Str):PySem.W.plainGet K C f=true:=c.pg
section
variable {X:Cx}{pins:List (Addr×Obj)}{σ:St}{H:Hp}{s:Shared}{A:Around}{E:Value->Shared->Prop}{Q:Value->Shared->Prop}{c:Value}{b:Bool}
inductive TyOf (K:PySem.W.Frag) (H:Hp):V->Value->Prop where
 | non:TyOf K H .non (.type "NoneType")
 | bl (x:Bool):TyOf K H (.bl x) (.type "bool")
 | int (i:Int):TyOf K H (.int i) (.type "int")
 | str (x:Str):TyOf K H (.str x) (.type "str")
 | flt (x:UInt64):TyOf K H (.flt x) (.type "float")
 | lst {a:Addr} {xs:List V} (e:H a=some (.lst xs)):TyOf K H (.ref a) (.type "list")
 | frz {a:Addr} {o:Obj} {xs:List V} (e:H a=some (.frz o (.lst xs))):TyOf K H (.ref a) (.type "list")
 | tup {a:Addr} {xs:List V} (e:H a=some (.tup xs)):TyOf K H (.ref a) (.type "tuple")
 | dK {a:Addr} {kvs:List (Key×V)} (e:H a=some (.dK kvs)):TyOf K H (.ref a) (.type "dict")
 | dT {a:Addr} {kvs:List (List Key×V)} (e:H a=some (.dT kvs)):TyOf K H (.ref a) (.type "dict")
 | ins {a C dx:Addr} {fs:List (Str×V)} (e:H a=some (.ins C dx fs)) (cl:Cls K C) (ha:PySem.W.findIn K (.ref C) "__class__" = some (some (.builtin "object.__class__")))
   (hn:PySem.W.specialIn K (.builtin "object.__class__") "__get__" = some (some (.builtin "getset_descriptor.__get__"))) (htk:PySem.W.takesIn K (.builtin "object.__class__")=some true)
   (hm:PySem.W.mroIn K C (.type "object")=some true):TyOf K H (.ref a) (.ref C)
theorem g0m {x:V}{u t:Value}(I:Inv X pins σ H s)(rx:RelV x u)(ty:TyOf X.K H x t)(e:PySem.W.kitOne X.K t c=some b)(h:∀tk,Q (.bool b) {s with toks:=tk}) :
  wpAny (model X.prog X.w) A (call (.builtin "isinstance") [u,c]) Q E s:=by
 cases ty with
 | non=>cases (show u=Value.none from rx);exact PySem.W.kia_one PySem.W.kitx_none I.kIn True.intro e (fun z=>nomatch z) h
 | bl y=>cases (show u=Value.bool y from rx);exact PySem.W.kia_one PySem.W.kitx_bool I.kIn True.intro e (fun z=>nomatch z) h
 | int i=>obtain⟨t,q⟩:=(show ∃t,u=Value.int i t from rx);cases q;exact PySem.W.kia_one PySem.W.kitx_int I.kIn True.intro e (fun z=>nomatch z) h
 | str y=>obtain⟨t,q⟩:=(show ∃t,u=Value.str y t from rx);cases q;exact PySem.W.kia_one PySem.W.kitx_str I.kIn True.intro e (fun z=>nomatch z) h
 | flt y=>obtain⟨t,q⟩:=(show ∃t,u=Value.float y t from rx);cases q;exact PySem.W.kia_one PySem.W.kitx_float I.kIn True.intro e (fun z=>nomatch z) h
 | @lst a xs ea =>
  cases (show u=Value.ref a from rx)
  obtain⟨_,_,n,_,h1⟩:=(show c0s X.prog X.w H s.heap a (.lst xs)from I.hok a _ ea)
  exact PySem.W.kia_one PySem.W.kitx_list I.kIn ⟨_,h1,rfl⟩ e (fun z=>nomatch z) h
 | @frz a ob xs ea =>
  cases (show u=Value.ref a from rx)
  obtain⟨_,_,_,n,_,h1⟩:=(show c0s X.prog X.w H s.heap a (.frz ob (.lst xs))from I.hok a _ ea)
  exact PySem.W.kia_one PySem.W.kitx_list I.kIn ⟨_,h1,rfl⟩ e (fun z=>nomatch z) h
 | @tup a xs ea =>
  cases (show u=Value.ref a from rx)
  obtain⟨_,_,_,p⟩:=(show c0s X.prog X.w H s.heap a (.tup xs)from I.hok a _ ea)
  obtain⟨o,h1,h2,_⟩:=p
  exact PySem.W.kia_one PySem.W.kitx_tuple I.kIn ⟨o,h1,h2⟩ e (fun z=>nomatch z) h
 | @dK a kvs ea =>
  cases (show u=Value.ref a from rx)
  obtain⟨_,_,vs,_,p⟩:=(show c0s X.prog X.w H s.heap a (.dK kvs)from I.hok a _ ea)
  obtain⟨o,es,ep,h1,h2,_⟩:=p
  exact PySem.W.kia_one PySem.W.kitx_dict I.kIn ⟨o,h1,h2.1⟩ e (fun z=>nomatch z) h
 | @dT a kvs ea =>
  cases (show u=Value.ref a from rx)
  obtain⟨_,_,xs,_,o,es,ep,h1,h2,_⟩:=(show c0s X.prog X.w H s.heap a (.dT kvs)from I.hok a _ ea)
  exact PySem.W.kia_one PySem.W.kitx_dict I.kIn ⟨o,h1,h2.1⟩ e (fun z=>nomatch z) h
 | @ins a C dx fs ea cl ha hn htk hm =>
  cases (show u=Value.ref a from rx)
  obtain⟨mA,O,_⟩:=z0l I.hok ea
  obtain⟨od,J,_⟩:=O.look
  exact PySem.W.kia_one (PySem.W.kitx_own (cl.get _) cl.hd ha hn htk hm) I.kIn J e (fun z=>nomatch z) h
end
structure Room (k:Nat)(A:Around):Prop where
 hd:A.handled=none
 dp:A.depth+3*k+5<recursionLimit
 un:A.units+16*k+200<cLine
theorem Room.mono {j k:Nat}{A:Around}(r:Room k A)(h:j<=k):Room j A:=⟨r.hd,by have:=r.dp;omega,by have:=r.un;omega⟩
theorem Room.deeper {k:Nat}{A:Around}(r:Room (k+1) A)(env:Env):Room k (A.deeper env) :=
 ⟨r.hd,by have:=r.dp;show A.depth+1+3*k+5<_;omega,by have:=r.un;show A.units+3+16*k+200<_;omega⟩
theorem Room.depth {k:Nat}{A:Around}(r:Room k A):A.depth<recursionLimit:=by have:=r.dp;omega
theorem Room.units {k:Nat}{A:Around}(r:Room k A):A.units+64<cLine:=by have:=r.un;omega
def tNil:TA:=fun _ H Q=>Q [] H
def b1i (ta:TE)(tr:TA):TA:=fun σ H Q=>ta σ H fun x H1=>tr σ H1 fun xs H2=>Q (x::xs) H2
section
variable {X:Cx}{e:Expr}{es:List Expr}{te:TE}{t:TA}{pos:Pos}
theorem a0g:PA X [] tNil:=fun _ _ _ _ H Q I h=>Calls.spliced_nil ⟨[],H,I,.nil,h⟩
theorem a0c (ha:PE X e te)(hr:PA X es t)(hs:starEach (e::es) X.env=(false,eval e X.env)::starEach es X.env:=by rfl):PA X (e::es) (b1i te t):=by
 intro pos pins s σ H Q I h
 rw[hs]
 show wpAny _ _ (spliced ((false,eval e X.env)::backTo pos (starEach es X.env))) _ _ s
 refine Calls.spliced_cons (thn (ha pins s σ H _ I h) fun u s1 ⟨x,H1,I1,r1,q1⟩=>?_)
 exact thn (hr pos pins s1 σ H1 _ I1 q1) fun us s2 ⟨xs,H2,I2,r2,q2⟩=>⟨x::xs,H2,I2,.cons r1 r2,q2⟩
def tTup (t:TA):TE:=fun σ H Q=>t σ H fun xs H1=>xs.length<=sizeLine/\∀p,H1 p=none->Q (.ref p) (upd H1 p (.tup xs))
def tLst (t:TA):TE:=fun σ H Q=>t σ H fun xs H1=>xs.length<=sizeLine/\∀p,H1 p=none->Q (.ref p) (upd H1 p (.lst xs))
theorem g0f {x1}(h:PA X es t):PE X (.Tuple es x1 pos) (tTup t):=by
 intro pins s σ H Q I hq
 refine wpAny_Tuple_spliced (thn (h pos pins s σ H _ I hq) fun us s1 ⟨xs,H1,I1,r,z,q⟩=>⟨by rw[<- r.length];exact z,?_⟩)
 have hf:H1 s1.heap.objs.size=none:=I1.hok.fresh (Nat.le_refl _)
 refine⟨.ref s1.heap.objs.size,upd H1 s1.heap.objs.size (.tup xs),I1.laid (t':=s1.toks) (fun b u e=>Heap.get?_push_of_some _ e) (Nat.le_refl _) ?_,rfl,q _ hf⟩
 exact⟨z,us,r,⟨_,Heap.get?_push_size _ rfl,rfl,_,rfl⟩⟩
theorem f0o (h:PA X es t):PE X (.List es pos) (tLst t):=by
 intro pins s σ H Q I hq
 refine wpAny_List_spliced (thn (h pos pins s σ H _ I hq) fun us s1 ⟨xs,H1,I1,r,z,q⟩=>⟨by rw[<- r.length];exact z,?_⟩)
 have hf:H1 s1.heap.objs.size=none:=I1.hok.fresh (Nat.le_refl _)
 refine⟨.ref s1.heap.objs.size,upd H1 s1.heap.objs.size (.lst xs),I1.laid (t':=s1.toks) (fun b u e=>Heap.get?_push_of_some _ e) (Nat.le_refl _) ?_,rfl,q _ hf⟩
 exact⟨z,us,0,r,Heap.get?_push_size _ rfl⟩
end
abbrev Sp:=List V->Hp->VK->XK->Prop
abbrev CXT:=List Env->Hp->Shared->XK->Value->Shared->Prop
structure Env0 (P:Program)(w:World)(K:PySem.W.Frag)(mg:Str->Option Value)(base:Heap)(A:Around)(outer:List Env)(s:Shared)(H:Hp):Prop where
 frames:A.frames=some outer
 mod:Mod K mg base
 bs:∀b o,base.get? b=some o->s.heap.get? b=some o/\H b=none
 bsz:base.objs.size<=s.heap.objs.size
 funs:s.heap.FunFrames base outer
 frf:∀b∈frs outer,H b=none
 hok:HOk P w H s.heap
 bare:AllBare s.gens
def CE (outer:List Env)(P:Program)(w:World)(H:Hp)(s:Shared)(Q:VK)(u:Value)(s':Shared):Prop :=
 ∃v H',s'.os=s.os/\AllBare s'.gens/\Un (frs outer) [] H H' s.heap s'.heap/\HOk P w H' s'.heap/\RelV v u/\Q v H'
def CR (CX:CXT)(outer:List Env)(P:Program)(w:World)(H:Hp)(s:Shared)(Q:VK)(E:XK)(r:Result)(s':Shared):Prop :=
 match r with
 | .ok (.ret u)=>CE outer P w H s Q u s'
 | .ok _=>False
 | .error e=>CX outer H s E e s'
structure FnOk (P:Program)(w:World)(K:PySem.W.Frag)(mg:Str->Option Value)(base:Heap)(CX:CXT)(k:Nat)(f:Addr)(fd:FuncData)(ps:List Str)(sp:Sp):Prop where
 len:∀vs H Q E,sp vs H Q E->vs.length=ps.length
 run:∀(A:Around) (outer:List Env) (s:Shared) (H:Hp) (args:Args) (us:List Value) (vs:List V) (Q:VK) (E:XK),Room k A->Env0 P w K mg base A outer s H->BindsTo s fd args (ps.zip us)->Vals vs us->sp vs H Q E ->
  codeAny (model P w) A (.call (.ref f) args) (CR CX outer P w H s Q E) s
theorem FnOk.imp {P:Program}{w:World}{K:PySem.W.Frag}{mg:Str->Option Value}{base:Heap}{CX:CXT}{k:Nat}{f:Addr}{fd:FuncData}{ps:List Str}{sp sp':Sp}(F:FnOk P w K mg base CX k f fd ps sp)
  (h:∀vs H Q E,sp' vs H Q E->sp vs H Q E):FnOk P w K mg base CX k f fd ps sp' :=
 ⟨fun vs H Q E q=>F.len vs H Q E (h _ _ _ _ q),fun A outer s H args us vs Q E hr he hb hv hs=>F.run A outer s H args us vs Q E hr he hb hv (h _ _ _ _ hs)⟩
section
variable {X:Cx}{pins:List (Addr×Obj)}{σ:St}{H:Hp}{s s':Shared}
theorem Inv.env0 (I:Inv X pins σ H s):Env0 X.prog X.w X.K X.mg X.base X.A X.stack s H :=
 ⟨I.ok.frames,I.ok.mod,I.bs,Nat.le_trans I.ok.bsz I.sz,I.stack,I.stkFree,I.hok,I.bare⟩
theorem Inv.after {Q:VK}{u:Value}(I:Inv X pins σ H s)(h:CE X.stack X.prog X.w H s Q u s'):EP X pins σ Q u s':=by
 obtain⟨v,H',os,bare,un,hok,r,q⟩:=h
 obtain⟨hh,g,d,t,os'⟩:=s'
 obtain rfl:os'=s.os:=os
 exact⟨v,H',I.call (h':=hh) (g':=g) (d':=d) (t':=t) (ch:=[]) un hok bare (fun b z=>absurd z (by simp)),r,q⟩
end
def r0h (sp:Sp)(dvs:List V)(E:XK)(t:TA):TE:=fun σ H Q=>t σ H fun vs H1=>sp (vs++dvs) H1 Q E
def v0j (K:PySem.W.Frag)(fd:FuncData)(ps:List Str)(ds:List Value):Prop :=
 ∀(s:Shared) (us:List Value),K.In s.heap->(us++ds).length=ps.length->BindsTo s fd ⟨us,[]⟩ (ps.zip (us++ds))
theorem v0j.all {K:PySem.W.Frag}{fd:FuncData}{ps:List Str}(h:∀us:List Value,us.length=ps.length->bindArgs fd ⟨us,[]⟩=pure (ps.zip us)):v0j K fd ps []:=fun s us _ hl=>by
 rw[List.append_nil]at hl ⊢
 exact .of_eq (h us hl)
def v0i (CX:CXT)(X:Cx)(E:XK):Prop:=∀(pins:List (Addr×Obj)) (σ:St) (H:Hp) (s:Shared) (e:Value) (s':Shared),Inv X pins σ H s->CX X.stack H s E e s'->X.xe e s'
section
variable {X:Cx}{CX:CXT}{k:Nat}{f C:Addr}{fd:FuncData}{ps:List Str}{sp:Sp}{dvs:List V}{ds:List Value}{E:XK}{x m:Str}{p pos apos:Pos}{e o:Expr}{es:List Expr}{ta:TE}{t:TA}
theorem b1n {pins:List (Addr×Obj)}{σ:St}{H:Hp}{s:Shared}{Q:VK}{us:List Value}{vs:List V}(F:FnOk X.prog X.w X.K X.mg X.base CX k f fd ps sp)(hr:Room k X.A)(hb:v0j X.K fd ps ds)(hd:Vals dvs ds)(hx:v0i CX X E)
  (I:Inv X pins σ H s) (r:Vals vs us) (h:sp (vs++dvs) H Q E):wpAny (model X.prog X.w) X.A (call (.ref f) us) (EP X pins σ Q) X.xe s:=by
 have r2:Vals (vs++dvs) (us++ds):=r.append hd
 have hl:(us++ds).length=ps.length:=by rw[<- r2.length];exact F.len _ _ _ _ h
 refine wpAny_call (codeAny_mono (F.run X.A X.stack s H ⟨us,[]⟩ (us++ds) (vs++dvs) Q E hr I.env0 (hb s us I.kIn hl) r2 h) fun r s' hq=>?_)
 cases r with
 | error e=>exact hx pins σ H s e s' I hq
 | ok fl =>
  cases fl with
  | ret u=>exact I.after hq
  | next=>exact False.elim hq
  | brk=>exact False.elim hq
  | cont=>exact False.elim hq
theorem y0v (F:FnOk X.prog X.w X.K X.mg X.base CX k f fd ps sp)(hr:Room k X.A)(hg:Gl X x)(hm:X.mg x=some (.ref f))(hk:PySem.W.keepIn X.K (.ref f)=true)(hb:v0j X.K fd ps ds)(hd:Vals dvs ds)(hx:v0i CX X E)
  (ha:PA X (e::es) t) (hdb:(x==("__debug__" : Str))=false:=by decide) (he:starEach (e::es) X.env=(false,eval e X.env)::starEach es X.env:=by rfl) (hpl:(backTo pos (starEach es X.env)).any (·.1)=false:=by rfl) :
  PE X (.Call (.Name x p) (e::es) [] pos) (r0h sp dvs E t):=by
 intro pins s σ H Q I h
 refine wpAny_Call_Name_kw (z0h I hg hm ?_ hdb)
 refine PySem.W.callWith_K (h₀:=X.base) I.ok.mod.kin hk (thn (ha pos pins s σ H _ I h) fun us s1 ⟨vs,H1,I1,r,q⟩=>⟨I1.kIn,?_⟩) he hpl
 exact b1n F hr hb hd hx I1 r q
end
structure b0f (N P:List Str)(sc:Scope):Prop where
 kind:sc.kind = .function
 co:sc.isCoroutine=false
 gen:sc.isGenerator=false
 nd:N.Nodup
 pre:N.take P.length=P
 par:∀x∈P,sc.names.lookup x=some .local∨sc.names.lookup x=some .cell
 nofree:∀y∈sc.names,y.2 ≠ .free
theorem o0b {kindOf:Str->Option NameKind}{x:Str}:∀ {binds:List (Str×Value)} {m:Str->Option Value},(∀v,(x,v)∉binds)->bindL kindOf binds m x=m x
 | [],_,_=>rfl
 | (n,v)::r,m,h=>by
  unfold bindL
  rw[o0b fun w hw=>h w (List.mem_cons_of_mem _ hw)]
  split
  ·have:x≠n:=by rintro rfl;exact h v List.mem_cons_self
   simp[this]
  ·rfl
theorem o0d {kindOf:Str->Option NameKind}{x:Str}:∀ {binds:List (Str×Value)} {m:Str->Option Value},(∀v,(x,v)∉binds)->bindC kindOf binds m x=m x
 | [],_,_=>rfl
 | (n,v)::r,m,h=>by
  unfold bindC
  rw[o0d fun w hw=>h w (List.mem_cons_of_mem _ hw)]
  split
  ·rfl
  ·have:x≠n:=by rintro rfl;exact h v List.mem_cons_self
   simp[this]
theorem o0c {kindOf:Str->Option NameKind}{x:Str}{v:Value}:∀ {P:List Str} {vs:List Value} {i:Nat} {m:Str->Option Value},P.Nodup->P[i]? = some x->vs[i]? = some v->kindOf x=some .local ->
  bindL kindOf (P.zip vs) m x=some v
 | [],_,_,_,_,h,_,_=>by simp at h
 | _::_,[],_,_,_,_,h,_=>by simp at h
 | p::P,w::vs,0,m,nd,h1,h2,hk=>by
  simp at h1 h2;subst h1;subst h2
  show bindL kindOf ((p,w)::P.zip vs) m p=_
  unfold bindL
  rw[o0b fun v hv=>(List.nodup_cons.mp nd).1 (List.of_mem_zip hv).1,if_pos hk]
  simp
 | p::P,w::vs,i+1,m,nd,h1,h2,hk=>by
  show bindL kindOf ((p,w)::P.zip vs) m x=_
  unfold bindL
  exact o0c (i:=i) (List.nodup_cons.mp nd).2 (by simpa using h1) (by simpa using h2) hk
theorem o0e {kindOf:Str->Option NameKind}{x:Str}{v:Value}:∀ {P:List Str} {vs:List Value} {i:Nat} {m:Str->Option Value},P.Nodup->P[i]? = some x->vs[i]? = some v->kindOf x≠some .local ->
  bindC kindOf (P.zip vs) m x=some v
 | [],_,_,_,_,h,_,_=>by simp at h
 | _::_,[],_,_,_,_,h,_=>by simp at h
 | p::P,w::vs,0,m,nd,h1,h2,hk=>by
  simp at h1 h2;subst h1;subst h2
  show bindC kindOf ((p,w)::P.zip vs) m p=_
  unfold bindC
  rw[o0d fun v hv=>(List.nodup_cons.mp nd).1 (List.of_mem_zip hv).1,if_neg hk]
  simp
 | p::P,w::vs,i+1,m,nd,h1,h2,hk=>by
  show bindC kindOf ((p,w)::P.zip vs) m x=_
  unfold bindC
  exact o0e (i:=i) (List.nodup_cons.mp nd).2 (by simpa using h1) (by simpa using h2) hk
def start (N:List Str)(vs:List V):St:=vs.map some++List.replicate (N.length - vs.length) none
def cxOf (CX:CXT)(P:Program)(w:World)(K:PySem.W.Frag)(mg:Str->Option Value)(base:Heap)(N:List Str)(qual:Str)(scope:Scope)(f:Addr)(cd:Value)(A:Around)(outer:List Env)(s:Shared)(H:Hp)(E:XK):Cx where
 prog:=P
 w:=w
 K:=K
 mg:=mg
 base:=base
 A:=A.deeper (envOfC qual scope s.heap.objs.size f cd)
 N:=N
 s₀:=s
 H₀:=H
 env:=envOfC qual scope s.heap.objs.size f cd
 outer:=outer
 stack:=envOfC qual scope s.heap.objs.size f cd::outer
 ex:=[]
 calm:=true
 fn:=fun _=>true
 pn:=[]
 xe:=fun e s'=>wpAny (model P w) (A.deeper (envOfC qual scope s.heap.objs.size f cd)) (leaving (envOfC qual scope s.heap.objs.size f cd) e) (fun _ s''=>CX outer H s E e s'') (fun e' s''=>CX outer H s E e' s'') s'
theorem q0u {sc:Scope}{n:Nat}{x:Str}(h:sc.names.lookup x=some .cell):∃c,(cellsFrom n sc.names []).lookup x=some c:=by
 have q:=PySem.W.cellsFrom_some sc.names n [] (.inl h)
 exact Option.isSome_iff_exists.mp q
theorem u0c {CX:CXT}{P:Program}{w:World}{K:PySem.W.Frag}{mg:Str->Option Value}{base:Heap}{N ps:List Str}{qual:Str}{scope:Scope}{f:Addr}{cd:Value}{A:Around}{outer:List Env}{s s1:Shared}{H:Hp}{E:XK}{us:List Value}{vs:List V}
  (S:b0f N ps scope) (hd:A.handled=none) (e0:Env0 P w K mg base A outer s H) (hl:vs.length=ps.length) (r:Vals vs us)
  (x:InCallC s s.heap.objs.size (bindL (envOfC qual scope s.heap.objs.size f cd).kindOf (ps.zip us) fun _=>none) (cellsFrom (s.heap.objs.size+1) scope.names []) (bindC (envOfC qual scope s.heap.objs.size f cd).kindOf (ps.zip us) fun _=>none) s1) :
  Inv (cxOf CX P w K mg base N qual scope f cd A outer s H E) [] (start N vs) H s1:=by
 have hpl:ps.length<=N.length:=by have:=congrArg List.length S.pre;rw[List.length_take]at this;omega
 obtain⟨h1,tk,rfl,hk⟩:=x.done
 have noA:∀b:Addr,b∉(cxOf CX P w K mg base N qual scope f cd A outer s H E).ex:=fun b z=>absurd (show b∈([]:List Addr)from z) (by simp)
 refine⟨⟨e0.mod,S.kind,rfl,rfl,Nat.le_refl _,fun y z c h1 h2=>?_,fun y hy=>?_,fun y c _ h=>?_,fun _=>hd,Around.frames_deeper e0.frames,.inr ⟨rfl,rfl⟩,fun b z=>absurd z (noA b),e0.bs,e0.bsz,fun b _ _=>noA b,fun b z=>absurd z (noA b),e0.funs,e0.frf⟩,
  rfl,e0.bare,Un.kept hk,⟨_,x.toInCall.ns,fun i y v h1 h2 h3=>?_⟩,fun y c h=>⟨_,x.cell y c h⟩,e0.hok.fresh (Nat.le_refl _),fun y c h=>?_,fun p hp=>absurd (show p∈([]:List (Addr×Obj))from hp) (by simp),e0.hok.kept hk,?_⟩
 ·exact name_of_addr x.apart (PySem.mem_of_lookup h1) (PySem.mem_of_lookup h2)
 ·have hy:scope.names.lookup y=some .cell∨scope.names.lookup y=some .free:=hy
  rcases hy with hy | hy
  ·exact q0u hy
  ·exact absurd rfl (S.nofree _ (PySem.mem_of_lookup hy))
 ·exact Nat.le_of_lt (x.above y c (PySem.mem_of_lookup h))
 ·have hi:i<vs.length:=by
   unfold start at h2
   by_cases hi:i<vs.length
   ·exact hi
   ·rw[List.getElem?_append_right (by simpa using hi)]at h2
    rw[List.getElem?_replicate]at h2
    split at h2 <;> cases h2
  have ha:vs[i]? = some v:=by
   unfold start at h2
   rw[List.getElem?_append_left (by simpa using hi),List.getElem?_map]at h2
   cases e:vs[i]? with
   | none=>rw[e]at h2;cases h2
   | some a=>rw[e]at h2;cases h2;rfl
  obtain⟨u,hu,rv⟩:=r.get ha
  have hp:ps[i]? = some y:=by
   rw[<- S.pre,List.getElem?_take_of_lt (by omega)];exact h1
  have ndP:ps.Nodup:=by rw[<- S.pre];exact S.nd.sublist (List.take_sublist _ _)
  refine⟨u,rv,?_⟩
  rcases S.par y (List.mem_of_getElem? hp)with k | k
  ·exact .inl ⟨k,o0c ndP hp hu k⟩
  ·obtain⟨c,e⟩:=q0u (n:=s.heap.objs.size+1) k
   refine .inr ⟨.inl k,c,e,?_⟩
   have q:=x.cell y c e
   rw[o0e ndP hp hu (by show scope.names.lookup y≠_;rw[k];decide)]at q
   exact q
 ·exact e0.hok.fresh (Nat.le_of_lt (x.above y c (PySem.mem_of_lookup h)))
 ·unfold start
  show _=N.length
  rw[List.length_append,List.length_map,List.length_replicate]
  omega
theorem d1x {CX:CXT}{P:Program}{w:World}{K:PySem.W.Frag}{mg:Str->Option Value}{base:Heap}{k:Nat}{f:Addr}{name qual:Str}{params:Arguments}{body:List Stmt}{scope:Scope}{dV kV doc pm cdv ct oc:Value}{an od:Option Addr}
  {osl:Array (Option Value)} {N ps:List Str} {sp:Sp} (lk:K.lookup f=some ⟨oc,od,.func (PySem.W.fnOf name qual params body scope dV kV doc pm an cdv ct),osl⟩) (hcd:PySem.W.codeIn K cdv qual=true) (S:b0f N ps scope)
  (len:∀vs H Q E,sp vs H Q E->vs.length=ps.length)
  (hbody:∀(A:Around) (outer:List Env) (s:Shared) (H:Hp) (vs:List V) (Q:VK) (E:XK),Room k (A.deeper (envOfC qual scope s.heap.objs.size f cdv))->sp vs H Q E ->
   ∃t,PSs (cxOf CX P w K mg base N qual scope f cdv A outer s H E) body t/\t {nx:=fun _ H'=>Q .non H',rt:=Q} (start N vs) H) :
  FnOk P w K mg base CX (k+1) f (PySem.W.fnOf name qual params body scope dV kV doc pm an cdv ct) ps sp:=by
 refine⟨len,fun A outer s H args us vs Q E hr e0 hb r hsp=>?_⟩
 have hl:=len _ _ _ _ hsp
 have KX:K.In s.heap:=e0.mod.kin.keeps fun b o e=>(e0.bs b o e).1
 have lim:s.heap.NoLimit:=e0.mod.nolimit.keeps fun b o e=>(e0.bs b o e).1
 have hkind:∀y∈ps.zip us,scope.names.lookup y.1=some .local∨(scope.names.lookup y.1=some .cell/\((cellsFrom (s.heap.objs.size+1) scope.names []).lookup y.1).isSome=true):=fun⟨n,v⟩ hy=>by
  rcases S.par n (List.of_mem_zip hy).1 with q | q
  ·exact .inl q
  ·exact .inr ⟨q,PySem.W.cellsFrom_some _ _ _ (.inl q)⟩
 refine codeAny_call_function hr.depth (KX _ _ lk) rfl S.co S.gen rfl (PySem.W.codeRec_of KX hcd) (hb _ _ _ _ ?_)
 refine wpAny_newFunctionEnv_cells S.kind hkind fun env he s1 x=>?_
 subst he
 refine⟨lim.keeps x.toInCall.keep,codeAny_func ?_⟩
 obtain⟨t,ht,hq⟩:=hbody A outer s H vs Q E (hr.deeper _) hsp
 have I:Inv (cxOf CX P w K mg base N qual scope f cdv A outer s H E) [] (start N vs) H s1:=u0c S hr.hd e0 hl r x
 refine wpAny_mono (ht [] s1 (start N vs) H _ I hq) (fun fl s' hs=>?_) fun e s' hs=>hs
 have fin:∀ {σ':St} {H':Hp} {v:V} {u:Value},Inv (cxOf CX P w K mg base N qual scope f cdv A outer s H E) [] σ' H' s'->RelV v u->Q v H'->CE outer P w H s Q u s' :=
  fun{σ' H' v u} J rv q=>⟨v,H',J.os,J.bare,J.base,J.hok,rv,q⟩
 cases fl with
 | ret u =>
  obtain⟨v,σ',H',J,rv,q⟩:=hs
  exact fin J rv q
 | next =>
  obtain⟨σ',H',J,q⟩:=hs
  exact fin (v:=V.non) (u:=Value.none) J rfl q
 | brk =>
  obtain⟨_,_,_,q⟩:=hs
  exact False.elim q
 | cont =>
  obtain⟨_,_,_,q⟩:=hs
  exact False.elim q
section
variable {X:Cx}{x:Str}{p pos:Pos}{e:Expr}{es:List Expr}{t:TA}{id T:String}{r:List V->Hp->VK->Prop}
def tCB (r:List V->Hp->VK->Prop)(t:TA):TE:=fun σ H Q=>t σ H fun vs H1=>r vs H1 Q
theorem a0w (hc:h0g X (.builtin id) r)(hg:Gl X x)(hm:X.mg x=none)(hv:bootBuiltins x=some (.builtin id))(ha:PA X (e::es) t)(hn:x ≠ "__name__" := by decide)(hdb:(x==("__debug__" : Str))=false:=by decide)
  (he:starEach (e::es) X.env=(false,eval e X.env)::starEach es X.env:=by rfl) (hpl:(backTo pos (starEach es X.env)).any (·.1)=false:=by rfl):PE X (.Call (.Name x p) (e::es) [] pos) (tCB r t):=by
 intro pins s σ H Q I h
 refine wpAny_Call_Name_kw (n0d I hg hm hv ?_ hn hdb)
 exact PyProof.Rows.callWith_builtin1 (thn (ha pos pins s σ H _ I h) fun us s1 ⟨vs,H1,I1,r1,q1⟩=>hc pins s1 σ H1 vs us Q I1 r1 q1) he hpl
theorem m0p (hc:h0g X (.type T) r)(hg:Gl X x)(hm:X.mg x=none)(hv:bootBuiltins x=some (.type T))(ha:PA X (e::es) t)(hn:x ≠ "__name__" := by decide)(hdb:(x==("__debug__" : Str))=false:=by decide)
  (he:starEach (e::es) X.env=(false,eval e X.env)::starEach es X.env:=by rfl) (hpl:(backTo pos (starEach es X.env)).any (·.1)=false:=by rfl):PE X (.Call (.Name x p) (e::es) [] pos) (tCB r t):=by
 intro pins s σ H Q I h
 refine wpAny_Call_Name_kw (n0d I hg hm hv ?_ hn hdb)
 exact PyProof.Rows.callWith_type1 (thn (ha pos pins s σ H _ I h) fun us s1 ⟨vs,H1,I1,r1,q1⟩=>hc pins s1 σ H1 vs us Q I1 r1 q1) he hpl
end
end L2
namespace HT
open PySem PyProof.Rows
def lexLt:List Int->List Int->Bool
 | [],[]=>false
 | [],_::_=>true
 | _::_,[]=>false
 | x::xs,y::ys=>if x=y then lexLt xs ys else decide (x<y)
theorem lexLt_cons (x y:Int)(xs ys:List Int):lexLt (x::xs) (y::ys)=if x=y then lexLt xs ys else decide (x<y):=rfl
theorem lexLt_nil_nil:lexLt [] []=false:=rfl
theorem lexLt_nil_cons (y:Int)(ys:List Int):lexLt [] (y::ys)=true:=rfl
theorem lexLt_cons_nil (x:Int)(xs:List Int):lexLt (x::xs) []=false:=rfl
section
variable {prog:Program}{w:World}{A:Around}{E:Value->Shared->Prop}{s:Shared}
def sIx (n d:Nat):Option Int->Nat
 | none=>d
 | some v=>if v<0 then(v+(n:Int)).toNat else min v.toNat n
theorem sIx_nat (n d k:Nat):sIx n d (some (k:Int))=min k n:=by
 show(if(k:Int)<0 then((k:Int)+(n:Int)).toNat else min (k:Int).toNat n)=min k n
 rw[if_neg (by omega),Int.toNat_natCast]
theorem b1m (n d:Nat)(hd:d<=n)(o:Option Int):sIx n d o<=n:=by
 cases o with
 | none=>exact hd
 | some v =>
  show(if v<0 then(v+(n:Int)).toNat else min v.toNat n)<=n
  by_cases hv:v<0
  ·rw[if_pos hv];omega
  ·rw[if_neg hv];exact Nat.min_le_right _ _
theorem u0y (v:Int)(n d:Nat):(if v<0 then max (v+(n:Int)) 0 else min v (n:Int))=((sIx n d (some v):Nat):Int):=by
 show(if v<0 then max (v+(n:Int)) 0 else min v (n:Int))=(((if v<0 then(v+(n:Int)).toNat else min v.toNat n):Nat):Int)
 by_cases hv:v<0
 ·simp only[if_pos hv];omega
 ·simp only[if_neg hv];omega
theorem r0y (lo hi:Option Int)(n:Nat):Builtin.Slice.sliceAdjust lo hi 1 (n:Int)=(((sIx n 0 lo:Nat):Int),((sIx n n hi:Nat):Int)):=by
 have h1:¬((1:Int)<0):=by omega
 unfold Builtin.Slice.sliceAdjust
 simp only[h1,if_false]
 refine Prod.ext ?_ ?_
 ·cases lo with
  | none=>rfl
  | some v=>exact u0y v n 0
 ·cases hi with
  | none=>rfl
  | some v=>exact u0y v n n
theorem r0j (i j:Nat):Builtin.Slice.slicePlaces (i:Int) (j:Int) 1=j - i:=by
 unfold Builtin.Slice.slicePlaces
 have h1:(1:Int) > 0:=by omega
 simp only[h1,if_true,Int.ediv_one]
 split <;> omega
theorem j0y {v:Value}{o:Option Int}{Q:Option Int->Shared->Prop}(p:IsPart v o)(h:Q o s):wpAny (model prog w) A (Builtin.Slice.slicePartIndex v) Q E s:=by
 cases p with
 | none=>exact slicePart_none h
 | int i t=>exact slicePart_int h
theorem e0t {sl:Addr}{vl vu:Value}{lo hi:Option Int}{n:Nat}{Q:Int×Int×Nat->Shared->Prop}(hs:s.heap.IsSliceOf sl vl vu .none)(pl:IsPart vl lo)(pu:IsPart vu hi)
  (h:Q (((sIx n 0 lo:Nat):Int),1,sIx n n hi - sIx n 0 lo) s):wpAny (model prog w) A (Builtin.Slice.sliceApplied (.ref sl) (pure (n:Int))) Q E s:=by
 obtain⟨os,hos,hcs,hds⟩:=id hs
 unfold Builtin.Slice.sliceApplied Builtin.Slice.sliceFields
 refine wpAny_bind (wpAny_bind (wpAny_field hos hds (x:=vl) rfl (wpAny_bind (wpAny_field hos hds (x:=vu) rfl (wpAny_bind (wpAny_field hos hds (x:=.none) rfl (wpAny_pure ?_)))))))
 refine wpAny_bind (slicePart_none ?_)
 show wpAny _ _ (if((1:Int)==0)=true then _ else _) _ _ s
 rw[if_neg (by decide)]
 refine wpAny_bind (j0y pl (wpAny_bind (j0y pu (wpAny_bind (wpAny_pure ?_)))))
 show wpAny _ _ (match Builtin.Slice.sliceAdjust lo hi 1 (n:Int)with | (lo,hi)=>pure (lo,(1:Int),Builtin.Slice.slicePlaces lo hi 1)) _ _ s
 rw[r0y lo hi n]
 show wpAny _ _ (pure (((sIx n 0 lo:Nat):Int),(1:Int),Builtin.Slice.slicePlaces ((sIx n 0 lo:Nat):Int) ((sIx n n hi:Nat):Int) 1)) _ _ s
 rw[r0j]
 exact wpAny_pure h
theorem w0a (xs:Array Value)(i k:Nat):((List.range k).filterMap fun(m:Nat)=>xs[((i:Int)+(m:Int)*1).toNat]?).toArray=((xs.toList.drop i).take k).toArray:=by
 have e:(fun(m:Nat)=>xs[((i:Int)+(m:Int)*1).toNat]?)=fun m=>xs[i+m]?:=by
  funext m
  have:((i:Int)+(m:Int)*1).toNat=i+m:=by omega
  rw[this]
 rw[e]
 have:=pick_run xs i k
 rw[List.filterMap_map]at this
 have e2:((fun x=>xs[x]?) ∘ fun x=>i+x)=fun m=>xs[i+m]?:=rfl
 rw[e2]at this
 rw[this]
theorem getItem_tuple_cut {t sl:Addr}{items:Array Value}{vl vu:Value}{lo hi:Option Int}{Q:Value->Shared->Prop}(ht:IsTup s.heap t items)(hs:s.heap.IsSliceOf sl vl vu .none)(pl:IsPart vl lo)(pu:IsPart vu hi)
  (hw:¬(sIx items.size 0 lo=0/\sIx items.size items.size hi=items.size))
  (h:Q (.ref s.heap.objs.size) {s with heap:=s.heap.push {cls:=.type "tuple",data:=.seq ((items.toList.drop (sIx items.size 0 lo)).take (sIx items.size items.size hi - sIx items.size 0 lo)).toArray}})
  (hsz:items.size<=sizeLine):wpAny (model prog w) A (getItem (.ref t) (.ref sl)) Q E s:=by
 have htake:sizeOk (.seq ((items.toList.drop (sIx items.size 0 lo)).take (sIx items.size items.size hi - sIx items.size 0 lo)).toArray):=by
  show((items.toList.drop (sIx items.size 0 lo)).take (sIx items.size items.size hi - sIx items.size 0 lo)).toArray.size<=sizeLine
  rw[List.size_toArray,List.length_take,List.length_drop,Array.length_toList]
  omega
 have hj:sIx items.size items.size hi<=items.size:=b1m _ _ (Nat.le_refl _) hi
 obtain⟨os,hos,hcs,hds⟩:=id hs
 have hTs:s.TypeIs (.ref sl) "slice" := ⟨os,hos,hcs⟩
 unfold getItem
 try with_reducible refine wpAny_holding ?_
 first | refine wpAny_bind (wpAny_pure ?_) | skip
 refine wpAny_bind (wpAny_sequenceKey ht.typeIs (by decide) ?_)
 refine wpAny_bind (wpAny_callSpecial?_slot (name:=Str.ofString "__getitem__") ht.typeIs PyProof.Rows.slot_tuple_getitem
  (wpAny_call_entry PyProof.Rows.slot_tuple_getitem ht.typeIs entry_tuple_getitem ?_ (args_tuple_getitem _ _)))
 show wpAny _ _ (Builtin.Tuple.tupleItemsOf (.ref t)>>=_) _ _ s
 refine wpAny_bind (tupleItemsOf_ ht ?_)
 refine wpAny_bind (wpAny_typeOf hTs ?_)
 rw[if_pos (by decide)]
 refine wpAny_bind (e0t hs pl pu ?_)
 have hno:¬((((sIx items.size 0 lo:Nat):Int)==0&&(1:Int)==1&&(sIx items.size items.size hi - sIx items.size 0 lo)==items.size)=true):=by
  intro q
  rw[Bool.and_eq_true,Bool.and_eq_true]at q
  have q1:((sIx items.size 0 lo:Nat):Int)=0:=eq_of_beq q.1.1
  have q2:sIx items.size items.size hi - sIx items.size 0 lo=items.size:=eq_of_beq q.2
  exact hw ⟨by omega,by omega⟩
 show wpAny _ _ (if(((sIx items.size 0 lo:Nat):Int)==0&&(1:Int)==1&&(sIx items.size items.size hi - sIx items.size 0 lo)==items.size)=true then _ else _) _ _ s
 rw[if_neg hno,w0a]
 first
  | exact wpAny_bind (m:=Builtin.Tuple.tupleExact _) (wpAny_newObj_type (wpAny_pure ⟨_,rfl,wpAny_pure h⟩) htake)
  | exact wpAny_bind (m:=Builtin.Tuple.tupleExact _) (wpAny_newObj_type (wpAny_bind (wpAny_pure (wpAny_pure ⟨_,rfl,wpAny_pure h⟩))) htake)
  | exact wpAny_bind (wpAny_bind (m:=Builtin.Tuple.tupleExact _) (wpAny_newObj_type (wpAny_pure (wpAny_pure ⟨_,rfl,wpAny_pure h⟩)) htake))
  | exact wpAny_bind (wpAny_bind (m:=Builtin.Tuple.tupleExact _) (wpAny_newObj_type (wpAny_pure ⟨_,rfl,wpAny_pure h⟩) htake))
end
end HT
namespace L2
open PySem PySem.Spec PyProof.Rows
abbrev TO:=St->Hp->(Option Int->Hp->Prop)->Prop
def PO (X:Cx)(e:Option Expr)(t:TO):Prop :=
 ∀(pins:List (Addr×Obj)) (s:Shared) (σ:St) (H:Hp) (Q:Option Int->Hp->Prop),Inv X pins σ H s->t σ H Q ->
  wpAny (model X.prog X.w) X.A (evalPart e X.env) (fun u s'=>∃o H',Inv X pins σ H' s'/\IsPart u o/\Q o H') X.xe s
def tNoPart:TO:=fun _ H Q=>Q none H
def b1g (t:TE):TO:=fun σ H Q=>t σ H fun x H1=>∃i,x = .int i/\Q (some i) H1
theorem k0f {ns:List Int}:∀ {us:List Value},Vals (ns.map V.int) us->IntsAre us ns:=by
 induction ns with
 | nil=>intro us r;rw[List.map_nil]at r;cases r;exact .nil
 | cons n ns ih =>
  intro us r
  rw[List.map_cons]at r
  cases r with
  | cons r1 r2 =>
   obtain⟨t,e⟩:=r1
   subst e
   exact .cons n t (ih r2)
section
variable {X:Cx}{e:Expr}{te:TE}{lo hi:Option Expr}{tl th:TO}{pos p2:Pos}
theorem o0p:PO X none tNoPart:=by
 intro pins s σ H Q I h
 rw[evalPart_none]
 exact wpAny_pure ⟨none,H,I,.none,h⟩
theorem o0o (h:PE X e te):PO X (some e) (b1g te):=by
 intro pins s σ H Q I hw
 rw[evalPart_some]
 refine thn (h pins s σ H _ I hw) fun u s1 ⟨x,H1,I1,r1,q1⟩=>?_
 obtain⟨i,rfl,q⟩:=q1
 obtain⟨t,rfl⟩:=r1
 exact⟨some i,H1,I1,.int i t,q⟩
def SlR (X:Cx)(r:V->Option Int->Option Int->Hp->VK->Prop):Prop :=
 ∀(pins:List (Addr×Obj)) (s:Shared) (σ:St) (H:Hp) (x:V) (v vl vu:Value) (lo hi:Option Int) (sl:Addr) (Q:VK),Inv X pins σ H s->RelV x v->s.heap.IsSliceOf sl vl vu .none->IsPart vl lo->IsPart vu hi->r x lo hi H Q ->
  ∃T id,typeLookup (.type T) "__getitem__" = pure (some (.builtin id))/\s.TypeIs v T/\wpAny (model X.prog X.w) X.A (getItem v (.ref sl)) (EP X pins σ Q) X.xe s
def tSl (r:V->Option Int->Option Int->Hp->VK->Prop)(te:TE)(tl th:TO):TE:=fun σ H Q=>te σ H fun x H1=>tl σ H1 fun l H2=>th σ H2 fun u H3=>r x l u H3 Q
theorem l0f {r:V->Option Int->Option Int->Hp->VK->Prop}(hr:SlR X r)(he:PE X e te)(hl:PO X lo tl)(hu:PO X hi th):PE X (.Subscript e (.Slice lo hi none p2) pos) (tSl r te tl th):=by
 intro pins s σ H Q I h
 refine Subscript_ (thn (he pins s σ H _ I h) fun v s1 ⟨x,H1,I1,r1,q1⟩=>?_)
 refine wpAny_Slice (thn (hl pins s1 σ H1 _ I1 q1) fun vl s2 ⟨l,H2,I2,pl,q2⟩=>thn (hu pins s2 σ H2 _ I2 q2) fun vu s3 ⟨u,H3,I3,pu,q3⟩=>?_)
 rw[evalPart_none]
 refine wpAny_pure ?_
 have I4:Inv X pins σ H3 {s3 with heap:=s3.heap.push {cls:=.type "slice",data:=.fields #[vl,vu,.none]}}:=I3.kept (t':=s3.toks) fun b ob q=>Heap.get?_push_of_some _ q
 obtain⟨T,id,hT,ht,hg⟩:=hr pins {s3 with heap:=s3.heap.push {cls:=.type "slice",data:=.fields #[vl,vu,.none]}} σ H3 x v vl vu l u s3.heap.objs.size Q I4 r1 (Heap.IsSliceOf.new ..) pl pu q3
 show wpAny (model X.prog X.w) X.A (subscriptTail e (.Slice lo hi none p2) v (.ref s3.heap.objs.size)) (EP X pins σ Q) X.xe {s3 with heap:=s3.heap.push {cls:=.type "slice",data:=.fields #[vl,vu,.none]}}
 exact tail_any (ops:=[.ref s3.heap.objs.size,v]) ht hT hg (by with_unfolding_all rfl)
def cutV (xs:List V)(lo hi:Option Int):List V:=(xs.drop (HT.sIx xs.length 0 lo)).take (HT.sIx xs.length xs.length hi - HT.sIx xs.length 0 lo)
theorem i0y (xs:List V)(lo hi:Option Int):(cutV xs lo hi).length<=xs.length:=by
 unfold cutV
 rw[List.length_take,List.length_drop]
 omega
def rSlT (K:PySem.W.Frag):V->Option Int->Option Int->Hp->VK->Prop:=fun x lo hi H Q=>∃a xs,x = .ref a/\SqT K H a xs /\
 ¬(HT.sIx xs.length 0 lo=0/\HT.sIx xs.length xs.length hi=xs.length)/\∀p,H p=none->Q (.ref p) (upd H p (.tup (cutV xs lo hi)))
theorem b1l:SlR X (rSlT X.K):=by
 intro pins s σ H x v vl vu lo hi sl Q I rx hs pl pu h
 obtain⟨a,xs,rfl,hx,hw,q⟩:=h
 cases rx
 obtain⟨its,r,ht,hz⟩:=I.tuple hx
 have hlen:its.toArray.size=xs.length:=by rw[List.size_toArray];exact r.length.symm
 refine⟨"tuple",_,PyProof.Rows.slot_tuple_getitem.lookup,ht.typeIs,?_⟩
 refine HT.getItem_tuple_cut ht hs pl pu (by rw[hlen];exact hw) ?_ (by rw[hlen];exact hz)
 rw[hlen]
 refine⟨.ref s.heap.objs.size,_,I.laid (t':=s.toks) (o:=.tup (cutV xs lo hi)) (fun b ob q=>Heap.get?_push_of_some _ q) (Nat.le_refl _) ?_,rfl,q _ (I.hok.fresh (Nat.le_refl _))⟩
 exact⟨Nat.le_trans (i0y xs lo hi) hz,_,(r.drop (HT.sIx xs.length 0 lo)).take (HT.sIx xs.length xs.length hi - HT.sIx xs.length 0 lo),IsTup.new _ _⟩
end
def ixN (n:Nat)(i:Int):Option Nat:=if 0<=i then(if i<n then some i.toNat else none)else if -(n:Int)<=i then some (i+n).toNat else none
def atI {α:Type}(xs:List α)(i:Int):Option α:=(ixN xs.length i).bind fun j=>xs[j]?
theorem z0k {n:Nat}{i:Int}{j:Nat}(h:ixN n i=some j):seqIndex? i n=some j/\j<n/\-(n:Int)<=i/\i<n:=by
 unfold ixN at h
 by_cases h0:0<=i
 ·rw[if_pos h0]at h
  by_cases h1:i<n
  ·rw[if_pos h1]at h
   have e:i.toNat=j:=Option.some.inj h
   exact⟨by rw[seqIndex_of h0 h1,e],by omega,by omega,h1⟩
  ·rw[if_neg h1]at h;cases h
 ·rw[if_neg h0]at h
  by_cases h1:-(n:Int)<=i
  ·rw[if_pos h1]at h
   have e:(i+n).toNat=j:=Option.some.inj h
   exact⟨by rw[seqIndex_neg (by omega) h1,e],by omega,h1,by omega⟩
  ·rw[if_neg h1]at h;cases h
theorem p0r {α:Type}{xs:List α}{i:Int}{v:α}(h:atI xs i=some v):∃j,seqIndex? i xs.length=some j/\xs[j]? = some v/\j<xs.length/\-(xs.length:Int)<=i/\i<xs.length:=by
 unfold atI at h
 cases e:ixN xs.length i with
 | none=>rw[e]at h;cases h
 | some j =>
  rw[e]at h
  obtain⟨h1,h2,h3,h4⟩:=z0k e
  exact⟨j,h1,h,h2,h3,h4⟩
theorem p0q {α:Type}{xs:List α}{j:Nat}{v:α}(h:xs[j]? = some v):atI xs (j:Int)=some v:=by
 have hj:j<xs.length:=(List.getElem?_eq_some_iff.mp h).1
 have e:ixN xs.length (j:Int)=some j:=by
  unfold ixN
  rw[if_pos (by omega),if_pos (by omega)];simp
 unfold atI;rw[e];exact h
def a1h (b:Expr):Prop:=∀o i,subscripted b false o i=operate [o,i] (getItem o i)
def IxR (X:Cx)(r:R2):Prop :=
 ∀(value slice:Expr) (pins:List (Addr×Obj)) (s:Shared) (σ:St) (H:Hp) (x y:V) (v u:Value) (Q:VK),Inv X pins σ H s->RelV x v->RelV y u->r x y H Q ->
  subscripted slice false v u=operate [v,u] (getItem v u)->wpAny (model X.prog X.w) X.A (subscriptTail value slice v u) (EP X pins σ Q) X.xe s
def MtR (X:Cx)(id:String)(r:V->List V->Hp->VK->Prop):Prop :=
 ∀(pins:List (Addr×Obj)) (s:Shared) (σ:St) (H:Hp) (x:V) (xs:List V) (v:Value) (us:List Value) (Q:VK),Inv X pins σ H s->RelV x v->Vals xs us->r x xs H Q ->
  wpAny (model X.prog X.w) X.A (call (.builtin id) (v::us)) (EP X pins σ Q) X.xe s
section
variable {X:Cx}{a b:Expr}{ta tb:TE}{pos:Pos}
theorem IxR.or {r r':R2}(h:IxR X r)(h':IxR X r'):IxR X (fun x y H Q=>r x y H Q∨r' x y H Q):=by
 intro value slice pins s σ H x y v u Q I rx ry q hs
 rcases q with q | q
 ·exact h value slice pins s σ H x y v u Q I rx ry q hs
 ·exact h' value slice pins s σ H x y v u Q I rx ry q hs
theorem d0p {r:R2}(hr:IxR X r)(ha:PE X a ta)(hb:PE X b tb)(hs:a1h b):PE X (.Subscript a b pos) (tOp r ta tb):=by
 intro pins s σ H Q I h
 exact Subscript_ (binT ha hb I h fun v u s2 x y H2 I2 rx ry q=>hr a b pins s2 σ H2 x y v u Q I2 rx ry q (hs _ _))
def rIxL (K:PySem.W.Frag):R2:=fun x y H Q=>∃p xs i v,x = .ref p/\y = .int i/\SqL K H p xs/\atI xs i=some v/\Q v H
def rIxT (K:PySem.W.Frag):R2:=fun x y H Q=>∃p xs i v,x = .ref p/\y = .int i/\SqT K H p xs/\atI xs i=some v/\Q v H
def rIxS:R2:=fun x y H Q=>∃z i c,x = .str z/\y = .int i/\z.length<=sizeLine/\atI z.cps.toList i=some c/\Q (.str ⟨#[c]⟩) H
theorem z0j:IxR X (rIxL X.K):=by
 intro value slice pins s σ H x y v u Q I rx ry h hs
 obtain⟨p,xs,i,z,rfl,rfl,hq,he,q⟩:=h
 cases rx
 obtain⟨t,rfl⟩:=ry
 obtain⟨its,r,pl,hz⟩:=I.list hq
 obtain⟨j,h1,h2,h3,h4,h5⟩:=p0r he
 obtain⟨w,ew,rw'⟩:=r.get h2
 have hl:=r.length
 have hn:=n0c
 have fin:EP X pins σ Q w s:=⟨z,H,I,rw',q⟩
 by_cases h0:0<=i
 ·have hj:i.toNat=j:=by
   rw[seqIndex_of h0 h5]at h1
   exact Option.some.inj h1
  exact item_listR pl.isList h0 (by omega) (by rw[hj];simpa using ew) fin hs
 ·have hj:(i+(its.toArray.size:Int)).toNat=j:=by
   rw[seqIndex_neg (by omega) h4]at h1
   rw[List.size_toArray,<- hl]
   exact Option.some.inj h1
  exact subscriptTail_builtinR (x:=w) pl.isList.typeIs slot_list_getitem.lookup
   (wpAny_getItem_list_neg (Q:=fun r s'=>r=w/\EP X pins σ Q r s') pl.isList (by omega) (by rw[List.size_toArray] <;> omega) (by omega) (by rw[hj];simpa using ew) ⟨rfl,fin⟩) hs
theorem c1r:IxR X (rIxT X.K):=by
 intro value slice pins s σ H x y v u Q I rx ry h hs
 obtain⟨p,xs,i,z,rfl,rfl,hq,he,q⟩:=h
 cases rx
 obtain⟨t,rfl⟩:=ry
 obtain⟨its,r,pl,hz⟩:=I.tuple hq
 obtain⟨j,h1,h2,h3,h4,h5⟩:=p0r he
 obtain⟨w,ew,rw'⟩:=r.get h2
 have hl:=r.length
 have hn:=n0c
 have fin:EP X pins σ Q w s:=⟨z,H,I,rw',q⟩
 exact subscriptTail_builtinR (x:=w) pl.typeIs slot_tuple_getitem.lookup
  (getItem_tuple (j:=j) (Q:=fun r s'=>r=w/\EP X pins σ Q r s') pl (by omega) (by omega) (by rw[List.size_toArray,<- hl];exact h1) (by simpa using ew) ⟨rfl,fin⟩) hs
theorem c1s:IxR X rIxS:=by
 intro value slice pins s σ H x y v u Q I rx ry h hs
 obtain⟨z,i,c,rfl,rfl,hz,he,q⟩:=h
 obtain⟨t,rfl⟩:=rx
 obtain⟨t',rfl⟩:=ry
 obtain⟨j,h1,h2,h3,h4,h5⟩:=p0r he
 have hl:z.cps.toList.length=z.length:=by simp[Str.length]
 rw[hl]at h1 h4 h5
 have hn:=n0c
 exact tail_any (typeIs_str s z t) slot_str_getitem.lookup (getItem_str (c:=c) (by
  have e1:decide (i < -(2^63:Int))=false:=decide_eq_false (by omega)
  have e2:decide (i>=2^63)=false:=decide_eq_false (by omega)
  rw[e1,e2,Bool.or_false]) (by rw[h1];simpa using h2) ⟨.str ⟨#[c]⟩,H,I.tok _,⟨_,rfl⟩,q⟩) hs
def rIx (K:PySem.W.Frag):R2:=fun x y H Q=>rIxL K x y H Q∨rIxT K x y H Q∨rIxS x y H Q
theorem c1t:IxR X (rIx X.K):=z0j.or (c1r.or c1s)
theorem m0k (lo hi:Option Int)(n:Nat):(sliceBounds lo hi none n).1=((HT.sIx n 0 lo:Nat):Int)/\(sliceBounds lo hi none n).2.1=((HT.sIx n n hi:Nat):Int)/\(sliceBounds lo hi none n).2.2=1:=by
 refine⟨?_,?_,rfl⟩
 ·cases lo with
  | none=>simp[sliceBounds,HT.sIx]
  | some i =>
   simp only[sliceBounds,HT.sIx,Option.getD_none,show(1:Int) > 0 by decide,if_true]
   by_cases h:i<0
   ·simp only[h,if_true] <;> omega
   ·simp only[h,if_false] <;> omega
 ·cases hi with
  | none=>simp[sliceBounds,HT.sIx]
  | some i =>
   simp only[sliceBounds,HT.sIx,Option.getD_none,show(1:Int) > 0 by decide,if_true]
   by_cases h:i<0
   ·simp only[h,if_true] <;> omega
   ·simp only[h,if_false] <;> omega
theorem k0z (its:List Value)(lo hi:Option Int):slicePick its.toArray lo hi none=((its.drop (HT.sIx its.length 0 lo)).take (HT.sIx its.length its.length hi - HT.sIx its.length 0 lo)).toArray:=by
 obtain⟨h1,h2,h3⟩:=m0k lo hi its.toArray.size
 unfold slicePick
 rw[h1,h2,h3]
 simp only[sliceRange_one,pick_run,List.size_toArray] <;> rfl
def rSlL (K:PySem.W.Frag):V->Option Int->Option Int->Hp->VK->Prop:=fun x lo hi H Q=>∃a xs,x = .ref a/\SqL K H a xs/\∀p,H p=none->Q (.ref p) (upd H p (.lst (cutV xs lo hi)))
theorem y0p:SlR X (rSlL X.K):=by
 intro pins s σ H x v vl vu lo hi sl Q I rx hs pl pu h
 obtain⟨a,xs,rfl,hx,q⟩:=h
 cases rx
 obtain⟨its,r,ht,hz⟩:=I.list hx
 have hlen:=r.length
 refine⟨"list",_,slot_list_getitem.lookup,ht.isList.typeIs,?_⟩
 refine wpAny_getItem_list_slice ht.isList hs pl pu .none (by simp) ?_ (by rw[List.size_toArray] <;> omega)
 rw[k0z,<- hlen]
 refine⟨.ref s.heap.objs.size,_,I.laid (t':=s.toks) (o:=.lst (cutV xs lo hi)) (fun b ob q=>Heap.get?_push_of_some _ q) (Nat.le_refl _) ?_,rfl,q _ (I.hok.fresh (Nat.le_refl _))⟩
 exact⟨Nat.le_trans (i0y xs lo hi) hz,_,0,(r.drop (HT.sIx xs.length 0 lo)).take (HT.sIx xs.length xs.length hi - HT.sIx xs.length 0 lo),Heap.get?_push_size _ rfl⟩
def j0r:V->Bool
 | .non=>true
 | .bl _=>true
 | .int _=>true
 | .str _=>true
 | _=>false
def eqV:V->V->Bool
 | .non,.non=>true
 | .bl a,.bl b=>a==b
 | .bl a,.int b=>(if a then 1 else 0)==b
 | .int a,.bl b=>a==(if b then 1 else 0)
 | .int a,.int b=>a==b
 | .str a,.str b=>a==b
 | _,_=>false
theorem d1d {A:Around}{s:Shared}{y x:V}{u v:Value}(ry:RelV y u)(rx:RelV x v)(fy:j0r y=true)(fx:j0r x=true):SeqAt.EqAt A s u v (eqV y x):=by
 cases y with
 | non =>
  cases ry
  cases x with
  | non=>cases rx;exact SeqAt.EqAt.same _
  | bl b=>cases rx;exact SeqAt.EqAt.none_bool b
  | int b=>obtain⟨t,rfl⟩:=rx;exact SeqAt.EqAt.none_int b t
  | str b=>obtain⟨t,rfl⟩:=rx;exact SeqAt.EqAt.none_str b t
  | _=>exact absurd (show false=true from fx) Bool.false_ne_true
 | bl a =>
  cases ry
  cases x with
  | non=>cases rx;exact SeqAt.EqAt.bool_none a
  | bl b=>cases rx;exact SeqAt.EqAt.bool_bool a b
  | int b=>obtain⟨t,rfl⟩:=rx;exact SeqAt.EqAt.bool_int a b t
  | str b=>obtain⟨t,rfl⟩:=rx;exact SeqAt.EqAt.bool_str a b t
  | _=>exact absurd (show false=true from fx) Bool.false_ne_true
 | int a =>
  obtain⟨t',rfl⟩:=ry
  cases x with
  | non=>cases rx;exact SeqAt.EqAt.int_none a t'
  | bl b=>cases rx;exact SeqAt.EqAt.int_bool a t' b
  | int b=>obtain⟨t,rfl⟩:=rx;exact SeqAt.EqAt.int_int a t' b t
  | str b=>obtain⟨t,rfl⟩:=rx;exact SeqAt.EqAt.int_str a t' b t
  | _=>exact absurd (show false=true from fx) Bool.false_ne_true
 | str a =>
  obtain⟨t',rfl⟩:=ry
  cases x with
  | non=>cases rx;exact SeqAt.EqAt.str_none a t'
  | bl b=>cases rx;exact SeqAt.EqAt.str_bool a t' b
  | int b=>obtain⟨t,rfl⟩:=rx;exact SeqAt.EqAt.str_int a t' b t
  | str b=>obtain⟨t,rfl⟩:=rx;exact SeqAt.EqAt.str_str a t' b t
  | _=>exact absurd (show false=true from fx) Bool.false_ne_true
 | _=>exact absurd (show false=true from fy) Bool.false_ne_true
def eqU (x:V)(u:Value):Bool:=match u with
 | .none=>eqV .non x
 | .bool b=>eqV (.bl b) x
 | .int i _=>eqV (.int i) x
 | .str z _=>eqV (.str z) x
 | _=>false
theorem x0v {x y:V}{u:Value}(r:RelV y u)(f:j0r y=true):eqU x u=eqV y x:=by
 cases y with
 | non=>cases r;rfl
 | bl b=>cases r;rfl
 | int i=>obtain⟨t,rfl⟩:=r;rfl
 | str z=>obtain⟨t,rfl⟩:=r;rfl
 | _=>exact absurd (show false=true from f) Bool.false_ne_true
theorem p0s {x:V}:∀ {xs:List V} {us:List Value},Vals xs us->xs.all j0r=true->us.any (eqU x)=xs.any fun y=>eqV y x
 | _,_,.nil,_=>rfl
 | y::xs,u::us,.cons r t,f=>by
  rw[List.all_cons,Bool.and_eq_true]at f
  rw[List.any_cons,List.any_cons,x0v r f.1,p0s t f.2]
theorem l0k {A:Around}{s:Shared}{x:V}{v:Value}(rx:RelV x v)(fx:j0r x=true):∀ {xs:List V} {us:List Value},Vals xs us->xs.all j0r=true->∀u∈us,SeqAt.EqAt A s u v (eqU x u)
 | _,_,.nil,_=>fun u hu=>by cases hu
 | y::xs,u::us,.cons r t,f=>fun u' hu=>by
  rw[List.all_cons,Bool.and_eq_true]at f
  rcases List.mem_cons.mp hu with rfl | hu
  ·rw[x0v r f.1];exact d1d r rx f.1 fx
  ·exact l0k rx fx t f.2 u' hu
def inV (x:V)(xs:List V):Bool:=xs.any fun y=>eqV y x
def rIn (K:PySem.W.Frag)(neg:Bool):R2:=fun x y H Q=>∃p xs,y = .ref p/\(SqL K H p xs∨SqT K H p xs)/\j0r x=true/\xs.all j0r=true/\Q (.bl (if neg then !inV x xs else inV x xs)) H
theorem m0q:OpR X (compareOp .NotIn) (rIn X.K true):=by
 intro pins s σ H x y v u Q I rx ry h
 obtain⟨p,xs,rfl,hq,fx,fs,q⟩:=h
 cases ry
 rcases hq with hq | hq
 ·obtain⟨its,r,pl,hz⟩:=I.list hq
  refine SeqAt.notIn_listAt (eqU x) pl.isList (fun w hw=>l0k rx fx r fs w (by simpa using hw)) ⟨.bl _,H,I,rfl,?_⟩
  rw[show its.toArray.any (eqU x)=its.any (eqU x)by simp,p0s r fs]
  exact q
 ·obtain⟨its,r,pl,hz⟩:=I.tuple hq
  refine SeqAt.notIn_tupleAt (eqU x) pl (fun w hw=>l0k rx fx r fs w (by simpa using hw)) ⟨.bl _,H,I,rfl,?_⟩
  rw[show its.toArray.any (eqU x)=its.any (eqU x)by simp,p0s r fs]
  exact q
theorem n0y:h0g X (.builtin "len") (fun xs H Q=>∃p ys,xs=[.ref p]/\(SqL X.K H p ys∨SqT X.K H p ys)/\Q (.int ys.length) H):=by
 intro pins s σ H xs us Q I r h
 obtain⟨p,ys,rfl,hq,q⟩:=h
 obtain⟨u,rfl,rx⟩:=m0h r
 cases rx
 have hn:=n0c
 rcases hq with hq | hq
 ·obtain⟨its,r',pl,hz⟩:=I.list hq
  have hlen:=r'.length
  exact Calls.call_len_list pl.isList (by simp only[List.size_toArray] <;> omega) ⟨.int ys.length,H,I.tok _,⟨s.toks+1,by rw[List.size_toArray,hlen]⟩,q⟩
 ·obtain⟨its,r',pl,hz⟩:=I.tuple hq
  have hlen:=r'.length
  exact len_tuple pl (by simp only[List.size_toArray] <;> omega) ⟨.int ys.length,H,I.tok _,⟨s.toks+1,by rw[List.size_toArray,hlen]⟩,q⟩
theorem n0x:h0g X (.type "list") (fun xs H Q=>∃p ys,xs=[.ref p]/\(SqL X.K H p ys∨SqT X.K H p ys)/\∀l,H l=none->Q (.ref l) (upd H l (.lst ys))):=by
 intro pins s σ H xs us Q I r h
 obtain⟨p,ys,rfl,hq,q⟩:=h
 obtain⟨u,rfl,rx⟩:=m0h r
 cases rx
 have fin:∀(its:List Value),Vals ys its->ys.length<=sizeLine->∀(h':Heap) (c':Nat),(∀b o',s.heap.get? b=some o'->h'.get? b=some o') ->
   h'.get? s.heap.objs.size=some {cls:=.type "list",dict:=none,data:=.seq its.toArray c',slots:=#[]}->EP X pins σ Q (.ref s.heap.objs.size) {s with heap:=h'}:=fun its r' hz h' c' kp e =>
  ⟨.ref s.heap.objs.size,_,I.laid (t':=s.toks) kp (Nat.le_refl _) (show c0s X.prog X.w _ h' _ (.lst ys)from⟨hz,its,c',r',e⟩),rfl,q _ (I.hok.fresh (Nat.le_refl _))⟩
 rcases hq with hq | hq
 ·obtain⟨its,r',pl,hz⟩:=I.list hq
  have hlen:=r'.length
  obtain⟨o,ho,hc,n,hd⟩:=pl.isList
  exact call_list_seq p (.inl rfl) ho hc hd (fun h' c' kp e=>fin its r' hz h' c' kp e) (by simp only[List.size_toArray] <;> omega)
 ·obtain⟨its,r',pl,hz⟩:=I.tuple hq
  have hlen:=r'.length
  obtain⟨o,ho,hc,n,hd⟩:=pl
  exact call_list_seq p (.inr rfl) ho hc hd (fun h' c' kp e=>fin its r' hz h' c' kp e) (by simp only[List.size_toArray] <;> omega)
theorem m0a:h0g X (.type "tuple") (fun xs H Q=>∃p ys,xs=[.ref p]/\((SqL X.K H p ys/\∀l,H l=none->Q (.ref l) (upd H l (.tup ys)))∨(SqT X.K H p ys/\Q (.ref p) H))):=by
 intro pins s σ H xs us Q I r h
 obtain⟨p,ys,rfl,h⟩:=h
 obtain⟨u,rfl,rx⟩:=m0h r
 cases rx
 rcases h with⟨hq,q⟩ | ⟨hq,q⟩
 ·obtain⟨its,r',pl,hz⟩:=I.list hq
  have hlen:=r'.length
  refine call_tuple_list pl.isList (fun h' kp=>?_) (by simp only[List.size_toArray] <;> omega)
  have I1:Inv X pins σ H {s with heap:=h'}:=I.kept (t':=s.toks) kp
  have I2:Inv X pins σ (upd H h'.objs.size (.tup ys)) {s with heap:=h'.push {cls:=.type "tuple",data:=.seq its.toArray}} :=
   I1.laid (t':=s.toks) (fun b o e=>Heap.get?_push_of_some _ e) (Nat.le_refl _) (show c0s X.prog X.w _ _ _ (.tup ys)from⟨hz,its,r',IsTup.new _ _⟩)
  exact⟨.ref h'.objs.size,_,I2,rfl,q _ (I1.hok.fresh (Nat.le_refl _))⟩
 ·obtain⟨its,r',pl,hz⟩:=I.tuple hq
  exact call_tuple_same pl ⟨.ref p,H,I,rfl,q⟩
def tyV (K:PySem.W.Frag)(T:String)(x:V)(H:Hp):Prop:=match x with
 | .str _=>T = "str"
 | .int _=>T = "int"
 | .ref p=>(T = "list" /\ ∃xs,SqL K H p xs)∨(T = "tuple" /\ ∃o,K.lookup p=some o/\o.cls = .type "tuple" /\ o.dict=none) ∨
   (T = "dict" /\ ((∃kvs,H p=some (.dK kvs)) ∨ ∃kvs,H p=some (.dT kvs)))∨(T = "set" /\ ∃S n,H p=some (.set S n))
 | _=>False
theorem x0h {pins:List (Addr×Obj)}{σ:St}{H:Hp}{s:Shared}{T:String}{x:V}{v:Value}(I:Inv X pins σ H s)(r:RelV x v)(ty:tyV X.K T x H) :
  s.TypeIs v T/\∀a,v = .ref a->∃ob,s.heap.get? a=some ob/\ob.dict=none:=by
 cases x with
 | str z =>
  obtain⟨t,rfl⟩:=r
  cases (show T = "str" from ty)
  exact⟨typeIs_str s z t,fun _ e=>nomatch e⟩
 | int i =>
  obtain⟨t,rfl⟩:=r
  cases (show T = "int" from ty)
  exact⟨typeIs_int s i t,fun _ e=>nomatch e⟩
 | ref p =>
  cases r
  rcases ty with⟨rfl,xs,hq⟩ | ⟨rfl,o,hk,hc,hd⟩ | ⟨rfl,hk⟩ | ⟨rfl,S,n,hk⟩
  ·obtain⟨its,_,pl,_⟩:=I.list hq
   refine⟨pl.isList.typeIs,fun a e=>?_⟩
   cases e
   obtain⟨o,n,e,c,hd,_⟩:=pl
   exact⟨o,e,hd⟩
  ·refine⟨⟨o,I.kIn p o hk,hc⟩,fun a e=>?_⟩
   cases e
   exact⟨o,I.kIn _ o hk,hd⟩
  ·have z:∃o,s.heap.get? p=some o/\o.ExactDict:=by
    rcases hk with⟨kvs,hk⟩ | ⟨kvs,hk⟩
    ·obtain⟨_,_,_,_,o,_,_,e,ex,_⟩:=I.hok p _ hk
     exact⟨o,e,ex⟩
    ·obtain⟨_,_,_,_,o,_,_,e,ex,_⟩:=I.hok p _ hk
     exact⟨o,e,ex⟩
   obtain⟨o,e,ex⟩:=z
   refine⟨⟨o,e,ex.1⟩,fun a e2=>?_⟩
   cases e2
   exact⟨o,e,ex.2.1⟩
  ·obtain⟨o,_,_,_,e,ex,_⟩:=I.hok p _ hk
   refine⟨⟨o,e,ex.1⟩,fun a e2=>?_⟩
   cases e2
   exact⟨o,e,ex.2.1⟩
 | _=>exact False.elim ty
def tBM0 (K:PySem.W.Frag)(T:String)(r:V->List V->Hp->VK->Prop)(to:TE):TE:=fun σ H Q=>to σ H fun x H1=>tyV K T x H1/\r x [] H1 Q
def tBM (K:PySem.W.Frag)(T:String)(r:V->List V->Hp->VK->Prop)(to:TE)(t:TA):TE:=fun σ H Q=>to σ H fun x H1=>tyV K T x H1/\t σ H1 fun xs H2=>r x xs H2 Q
variable {o e:Expr}{es:List Expr}{to:TE}{t:TA}{name:Str}{apos cpos:Pos}{T id:String}{r:V->List V->Hp->VK->Prop}
theorem c1b (pa:PlainAttrs T)(slot:Slot T name id)(hty:typeOf (.builtin id)=pure (.type "method_descriptor"))(hm:MtR X id r)(ho:PE X o to)
  (hbase:attributeBase o name X.env (eval o X.env)=eval o X.env:=by rfl) (hline:(apos.endLine==cpos.line)=true:=by rfl):PE X (.Call (.Attribute o name apos) [] [] cpos) (tBM0 X.K T r to):=by
 intro pins s σ H Q I h
 refine wpAny_Call_method0_late hbase hline (thn (ho pins s σ H _ I h) fun v s1 ⟨x,H1,I1,r1,ty,q1⟩=>?_)
 obtain⟨h1,h2⟩:=x0h I1 r1 ty
 exact⟨T,id,pa,slot,hty,h1,h2,Calls.callWith_builtin rfl (PySem.evalArgs_none (hm pins s1 σ H1 x [] v [] Q I1 r1 .nil q1))⟩
theorem d1r (pa:PlainAttrs T)(slot:Slot T name id)(hty:typeOf (.builtin id)=pure (.type "method_descriptor"))(hm:MtR X id r)(ho:PE X o to)(ha:PA X (e::es) t)
  (hbase:attributeBase o name X.env (eval o X.env)=eval o X.env:=by rfl)
  (hfew:((backTo cpos (starEach (e::es) X.env)).all (fun x=>!x.1)&&(backToKw cpos (keywordEach [] X.env)).all (fun x=>x.1.isSome)
   && decide ((e::es).length+([]:List Keyword).length+(if([]:List Keyword).isEmpty then 0 else 1)<30))=true:=by rfl)
  (hline:(apos.endLine==cpos.line)=true:=by rfl) (hs:starEach (e::es) X.env=(false,eval e X.env)::starEach es X.env:=by rfl) (hplain:(backTo cpos (starEach es X.env)).any (·.1)=false:=by rfl) :
  PE X (.Call (.Attribute o name apos) (e::es) [] cpos) (tBM X.K T r to t):=by
 intro pins s σ H Q I h
 refine wpAny_Call_method_late hbase hfew hline rfl (thn (ho pins s σ H _ I h) fun v s1 ⟨x,H1,I1,r1,ty,q1⟩=>?_)
 obtain⟨h1,h2⟩:=x0h I1 r1 ty
 refine⟨T,id,pa,slot,hty,h1,h2,?_⟩
 have hA:=ha cpos pins s1 σ H1 _ I1 q1
 rw[hs]at hA ⊢
 refine Calls.callWith_builtin (by show(false||(backTo cpos (starEach es X.env)).any (·.1))=false;rw[hplain] <;> rfl) (Calls.evalArgs_plain ?_)
 exact thn hA fun us s2 ⟨vs,H2,I2,r2,q2⟩=>hm pins s2 σ H2 x vs v us Q I2 r1 r2 q2
end
def MtM (X:Cx)(id:String)(r:V->List V->Hp->VK->Prop):Prop :=
 ∀(pins:List (Addr×Obj)) (s:Shared) (σ:St) (H:Hp) (x:V) (xs:List V) (v:Value) (us:List Value) (Q:VK),Inv X pins σ H s->RelV x v->Vals xs us->r x xs H Q ->
  wpAny (model X.prog X.w) X.A (call (.builtin id) (v::us)) (EP X pins σ Q) X.xe s
theorem Vals.one:∀ {x:V} {us:List Value},Vals [x] us->∃u,us=[u]/\RelV x u
 | _,_,.cons r .nil=>⟨_,rfl,r⟩
theorem Vals.zero:∀ {us:List Value},Vals [] us->us=[]
 | _,.nil=>rfl
section
variable {X:Cx}{pins:List (Addr×Obj)}{σ:St}{H:Hp}{s:Shared}{l b:Addr}{xs ys zs:List V}
theorem Inv.lset {its its':List Value}{n:Nat}{f:Array Value->Array Value}{t':Nat}(I:Inv X pins σ H s)(hH:H l=some (.lst xs))
  (e:s.heap.get? l=some {cls:=.type "list",data:=.seq its.toArray n}) (hf:f its.toArray=its'.toArray) (hv:Vals ys its') (hz:ys.length<=sizeLine) :
  Inv X pins σ (upd H l (.lst ys)) {s with heap:=s.heap.update l (Obj.mapSeq f),toks:=t'}:=by
 have q:=PySem.IsL.update e f
 rw[hf]at q
 refine I.write (x:=l) (e:=l) (by rw[hH];exact trivial) (.inl rfl) (fun b' u hb hu=>(Heap.get?_update_other s.heap (Obj.mapSeq f) (Ne.symm hb)).trans hu) ⟨_,q⟩ ?_
 exact⟨hz,its',_,hv,q⟩
theorem Inv.lstM (I:Inv X pins σ H s)(hH:H l=some (.lst xs)):xs.length<=sizeLine/\∃(its:List Value) (n:Nat),Vals xs its/\xs.length=its.length/\s.heap.get? l=some {cls:=.type "list",data:=.seq its.toArray n}:=by
 obtain⟨z,its,n,r,e⟩:=I.hok l _ hH
 exact⟨z,its,n,r,r.length,e⟩
end
section
variable {X:Cx}
def rAppend:V->List V->Hp->VK->Prop:=fun x vs H Q=>∃l xs y,x = .ref l/\vs=[y]/\H l=some (.lst xs)/\xs.length<sizeLine/\Q .non (upd H l (.lst (xs++[y])))
theorem g0j:MtM X "list.append" rAppend:=by
 intro pins s σ H x vs v us Q I rx rv h
 obtain⟨l,xs,y,rfl,rfl,hH,hz,q⟩:=h
 cases rx
 obtain⟨u,rfl,ru⟩:=rv.one
 obtain⟨z,its,n,r,hl,e⟩:=I.lstM hH
 refine call_meets F.slot_list_append ⟨_,e,rfl⟩ F.entry_list_append (F.args_list_append_2 _ _) (PySem.list_append l its.toArray n u (by rw[List.size_toArray];omega)) ⟨e,?_⟩
 refine⟨.non,_,I.lset (its':=its++[u]) hH e (by simp) (r.append (.cons ru .nil)) ?_,rfl,q⟩
 rw[List.length_append,List.length_singleton]
 omega
def rClear:V->List V->Hp->VK->Prop:=fun x vs H Q=>∃l xs,x = .ref l/\vs=[]/\H l=some (.lst xs)/\Q .non (upd H l (.lst []))
theorem q0j:MtM X "list.clear" rClear:=by
 intro pins s σ H x vs v us Q I rx rv h
 obtain⟨l,xs,rfl,rfl,hH,q⟩:=h
 cases rx
 have hus:=rv.zero
 subst hus
 obtain⟨z,its,n,r,hl,e⟩:=I.lstM hH
 refine call_meets F.slot_list_clear ⟨_,e,rfl⟩ F.entry_list_clear (F.args_list_clear_1 _) (AutoSeq1.list_clear_list_0 l its.toArray n (by rw[List.size_toArray];omega)) ⟨e,?_⟩
 exact⟨.non,_,I.lset (its':=[]) (ys:=[]) hH e rfl .nil (Nat.zero_le _),rfl,q⟩
end
section
variable {κ:Type} [DecidableEq κ]
def valV (kvs:List (κ×V))(k:κ):Option V:=(kvs.find? fun kv=>decide (kv.1=k)).map (·.2)
def putK (kvs:List (κ×V))(k:κ)(v:V):List (κ×V) :=
 if(kvs.any fun kv=>decide (kv.1=k))=true then kvs.map (fun kv=>if kv.1=k then(kv.1,v)else kv)else kvs++[(k,v)]
theorem k0q {p:κ×V}{r:List (κ×V)}{k:κ}(e:p.1=k):valV (p::r) k=some p.2:=by simp[valV,List.find?_cons,e]
theorem k0r {p:κ×V}{r:List (κ×V)}{k:κ}(e:¬p.1=k):valV (p::r) k=valV r k:=by simp[valV,List.find?_cons,e]
theorem p0v (k:κ):∀kvs:List (κ×V),(kvs.any fun kv=>decide (kv.1=k))=(valV kvs k).isSome
 | []=>rfl
 | p::r=>by
  rw[List.any_cons]
  by_cases e:p.1=k
  ·simp only[k0q e,decide_eq_true e,Bool.true_or,Option.isSome_some]
  ·rw[k0r e,decide_eq_false e,Bool.false_or];exact p0v k r
theorem f0y (kvs:List (κ×V))(k:κ)(v:V):(putK kvs k v).length<=kvs.length+1:=by
 unfold putK
 split
 ·rw[List.length_map];omega
 ·rw[List.length_append,List.length_cons,List.length_nil];omega
theorem RelO.isSome_eq {o:Option V}{u:Option Value}(r:RelO o u):o.isSome=u.isSome:=by
 cases o with
 | none=>cases u with
  | none=>rfl
  | some _=>exact(show False from r).elim
 | some _=>cases u with
  | none=>exact(show False from r).elim
  | some _=>rfl
theorem KV.val {kvs:List (κ×V)}{vs:List (κ×Value)}(r:KV kvs vs)(k:κ):RelO (valV kvs k) (valueAt vs k):=by
 unfold KV at r
 induction r with
 | nil=>exact True.intro
 | @cons p q ps qs h t ih =>
  obtain⟨h1,h2⟩:=h
  by_cases e:p.1=k
  ·have e':q.1=k:=h1.symm.trans e
   have b:valueAt (q::qs) k=some q.2:=by simp[valueAt,List.find?_cons,e']
   rw[k0q e,b];exact h2
  ·have e':¬q.1=k:=fun z=>e (h1.trans z)
   have b:valueAt (q::qs) k=valueAt qs k:=by simp[valueAt,List.find?_cons,e']
   rw[k0r e,b];exact ih
theorem KV.any {kvs:List (κ×V)}{vs:List (κ×Value)}(r:KV kvs vs)(k:κ):(kvs.any fun kv=>decide (kv.1=k))=vs.any fun kv=>decide (kv.1=k):=by
 unfold KV at r
 induction r with
 | nil=>rfl
 | cons h t ih=>rw[List.any_cons,List.any_cons,ih,h.1]
theorem KV.repl {kvs:List (κ×V)}{vs:List (κ×Value)}(r:KV kvs vs)(k:κ){y:V}{u:Value}(ry:RelV y u) :
  KV (kvs.map fun kv=>if kv.1=k then(kv.1,y)else kv) (vs.map fun kv=>if kv.1=k then(kv.1,u)else kv):=by
 unfold KV at r ⊢
 induction r with
 | nil=>exact .nil
 | @cons p q ps qs h t ih =>
  rw[List.map_cons,List.map_cons]
  refine .cons ?_ ih
  obtain⟨h1,h2⟩:=h
  by_cases e:p.1=k
  ·rw[if_pos e,if_pos (h1.symm.trans e)];exact⟨h1,ry⟩
  ·rw[if_neg e,if_neg (fun z=>e (h1.trans z))];exact⟨h1,h2⟩
theorem KV.put {kvs:List (κ×V)}{vs:List (κ×Value)}(r:KV kvs vs)(k:κ){y:V}{u:Value}(ry:RelV y u):KV (putK kvs k y) (stored vs k u):=by
 unfold putK stored
 rw[r.any k]
 by_cases e:(vs.any fun kv=>decide (kv.1=k))=true
 ·rw[if_pos e,if_pos e];exact r.repl k ry
 ·rw[if_neg e,if_neg e];exact Paired.snoc r ⟨rfl,ry⟩
theorem KV.length {kvs:List (κ×V)}{vs:List (κ×Value)}(r:KV kvs vs):kvs.length=vs.length:=Paired.length r
end
theorem w0i {P:Program}{w:World}{k:Key}{u:Value}(r:RelV (kV k) u):(c0a P w).is k u=true:=by
 cases k with
 | inl i=>obtain⟨t,e⟩:=(show ∃t,u=Value.int i t from r);subst e;exact p0a P w i t
 | inr x=>obtain⟨t,e⟩:=(show ∃t,u=Value.str x t from r);subst e;exact o0z P w x t
theorem n0f {P:Program}{w:World}:∀ {ks:List Key} {us:List Value},Vals (ks.map kV) us->ItemsAre (c0a P w) ks us
 | [],_,r=>by rw[List.map_nil]at r;cases r;exact .nil
 | k::ks,_,r=>by
  rw[List.map_cons]at r
  cases r with
  | cons h t=>exact .cons (w0i h) (n0f t)
abbrev KT (H:Hp):List (List Key×V)->List (List Key×Addr×Value)->Prop:=Paired fun p q=>p.1=q.1/\H q.2.1=some (.tup (p.1.map kV))/\RelV p.2 q.2.2
theorem KT.val {H:Hp}{kvs:List (List Key×V)}{xs:List (List Key×Addr×Value)}(r:KT H kvs xs)(k:List Key):RelO (valV kvs k) ((atKey xs k).map (·.2)):=by
 induction r with
 | nil=>exact True.intro
 | @cons p q ps qs h t ih =>
  obtain⟨h1,_,h2⟩:=h
  by_cases e:p.1=k
  ·have e':q.1=k:=h1.symm.trans e
   have b:atKey (q::qs) k=some q.2:=by simp[atKey,List.find?_cons,e']
   rw[k0q e,b];exact h2
  ·have e':¬q.1=k:=fun z=>e (h1.trans z)
   have b:atKey (q::qs) k=atKey qs k:=by simp[atKey,List.find?_cons,e']
   rw[k0r e,b];exact ih
theorem KT.repl {H:Hp}{kvs:List (List Key×V)}{xs:List (List Key×Addr×Value)}(r:KT H kvs xs)(k:List Key){y:V}{u:Value}(ry:RelV y u) :
  KT H (kvs.map fun kv=>if kv.1=k then(kv.1,y)else kv) (xs.map (putAt k u)):=by
 induction r with
 | nil=>exact .nil
 | @cons p q ps qs h t ih =>
  rw[List.map_cons,List.map_cons]
  refine .cons ?_ ih
  obtain⟨h1,h2,h3⟩:=h
  unfold putAt
  by_cases e:p.1=k
  ·rw[if_pos e,if_pos (h1.symm.trans e)];exact⟨h1,h2,ry⟩
  ·rw[if_neg e,if_neg (fun z=>e (h1.trans z))];exact⟨h1,h2,h3⟩
theorem KT.put {H:Hp}{kvs:List (List Key×V)}{xs:List (List Key×Addr×Value)}(r:KT H kvs xs)(k:List Key){b:Addr}{y:V}{u:Value}(hb:H b=some (.tup (k.map kV)))(ry:RelV y u) :
  KT H (putK kvs k y) (storedH xs k b u):=by
 have e:(kvs.any fun kv=>decide (kv.1=k))=(atKey xs k).isSome:=by
  rw[p0v,(r.val k).isSome_eq,Option.isSome_map]
 unfold putK storedH
 rw[e]
 by_cases q:(atKey xs k).isSome=true
 ·rw[if_pos q,if_pos q];exact r.repl k ry
 ·rw[if_neg q,if_neg q];exact Paired.snoc r ⟨rfl,hb,ry⟩
theorem KT.keeps {H H':Hp}{kvs:List (List Key×V)}{xs:List (List Key×Addr×Value)}(r:KT H kvs xs)(ht:∀b ys,H b=some (.tup ys)->H' b=some (.tup ys)):KT H' kvs xs :=
 Paired.mapP r fun _ _ z=>⟨z.1,ht _ _ z.2.1,z.2.2⟩
section
variable {P:Program}{w:World}{H:Hp}{h:Heap}{a:Addr}
theorem b1o {u:HO}(ok:HOk P w H h)(e:Rd H a u):c0s P w H h a u:=e.ok ok
theorem z0t {kvs:List (Key×V)}(ok:HOk P w H h)(e:Rd H a (.dK kvs)):kvs.length<=sizeLine/\(a==sysModules)=false/\∃vs,KV kvs vs/\h.DictOf (c0a P w) a vs :=
 show c0s P w H h a (.dK kvs)from b1o ok e
theorem d1e {kvs:List (Key×V)}(ok:HOk P w H h)(e:H a=some (.dK kvs)):kvs.length<=sizeLine/\(a==sysModules)=false/\∃vs,KV kvs vs/\h.DictOf (c0a P w) a vs:=z0t ok (.inl e)
theorem t0y {ks:List Key}(ok:HOk P w H h)(e:H a=some (.tup (ks.map kV))):(tupleKind (c0a P w)).is h ks a:=by
 obtain⟨_,its,r,o,h1,h2,n,h3⟩:=(show c0s P w H h a (.tup (ks.map kV))from ok a _ e)
 exact⟨o,its.toArray,n,h1,h2,h3,by simpa using n0f r⟩
theorem z0r {kvs:List (List Key×V)}(ok:HOk P w H h)(e:Rd H a (.dT kvs)):kvs.length<=sizeLine/\(a==sysModules)=false /\
  ∃xs,KT H kvs xs/\h.DictOfH (tupleKind (c0a P w)) a xs:=by
 obtain⟨z,y,xs,r,o,es,ep,h1,h2,h3,h4,h5⟩:=(show c0s P w H h a (.dT kvs)from b1o ok e)
 refine⟨z,y,xs,r,o,es,ep,h1,h2,h3,h4,fun x hx=>?_,h5⟩
 have all:∀ {l:List (List Key×V)} {m:List (List Key×Addr×Value)},KT H l m->∀x∈m,(tupleKind (c0a P w)).is h x.1 x.2.1:=by
  intro l m q
  induction q with
  | nil=>intro x hx;exact nomatch hx
  | @cons p q ps qs hq t ih =>
   intro x hx
   rcases List.mem_cons.mp hx with e | hx
   ·subst e
    exact t0y ok (by rw[<- hq.1];exact hq.2.1)
   ·exact ih x hx
 exact all r x hx
theorem d1y {kvs:List (List Key×V)}(ok:HOk P w H h)(e:H a=some (.dT kvs)):kvs.length<=sizeLine/\(a==sysModules)=false /\
  ∃xs,KT H kvs xs/\h.DictOfH (tupleKind (c0a P w)) a xs:=z0r ok (.inl e)
end
def DGet (H:Hp)(a:Addr)(y:V)(r:Option V):Prop :=
 (∃kvs k,Rd H a (.dK kvs)/\y=kV k/\r=valV kvs k) ∨ ∃kvs k b,Rd H a (.dT kvs)/\y = .ref b/\H b=some (.tup (k.map kV))/\r=valV kvs k
def DPut (H:Hp)(a:Addr)(y v:V)(H':Hp):Prop :=
 (∃kvs k,H a=some (.dK kvs)/\y=kV k/\kvs.length<sizeLine/\H'=upd H a (.dK (putK kvs k v))) ∨
 ∃kvs k b,H a=some (.dT kvs)/\y = .ref b/\H b=some (.tup (k.map kV))/\kvs.length<sizeLine/\H'=upd H a (.dT (putK kvs k v))
theorem DGet.k {H:Hp}{a:Addr}{kvs:List (Key×V)}{k:Key}(e:H a=some (.dK kvs)):DGet H a (kV k) (valV kvs k):=.inl ⟨kvs,k,.inl e,rfl,rfl⟩
theorem DPut.k {H:Hp}{a:Addr}{kvs:List (Key×V)}{k:Key}{v:V}(e:H a=some (.dK kvs))(hl:kvs.length<sizeLine):DPut H a (kV k) v (upd H a (.dK (putK kvs k v))):=.inl ⟨kvs,k,e,rfl,hl,rfl⟩
section
variable {X:Cx}{pins:List (Addr×Obj)}{σ:St}{H:Hp}{s:Shared}{a:Addr}{y v:V}{u r:Value}{o:Option V}{A:Around}{E:Value->Shared->Prop}
theorem Inv.big (I:Inv X pins σ H s):sysModules<s.heap.objs.size:=by
 have h:mainGlobals<s.heap.objs.size:=(I.mod.glob.keeps I.bk).lt
 exact Nat.lt_trans (by decide) h
theorem u0s {Q:Value->Shared->Prop}(hu:A.units+1<cLine)(I:Inv X pins σ H s)(g:DGet H a y (some v))(ry:RelV y u)(h:∀w' s',Inv X pins σ H s'->RelV v w'->Q w' s') :
  wpAny (model X.prog X.w) A (getItem (.ref a) u) Q E s:=by
 rcases g with⟨kvs,k,e,ey,l⟩ | ⟨kvs,k,b,e,ey,eb,l⟩
 ·subst ey
  obtain⟨z,hd,vs,rel,dd⟩:=z0t I.hok e
  obtain⟨w',hw,rw'⟩:=RelO.some_of (v:=v) (o:=valueAt vs k) (by rw[l];exact rel.val k)
  exact wpAny_getItem_of (w0i ry) dd.mapOf hw (h w' _ (I.tok _) rw')
 ·subst ey
  cases (show u=Value.ref b from ry)
  obtain⟨z,hd,xs,rel,dd⟩:=z0r I.hok e
  obtain⟨w',hw,rw'⟩:=RelO.some_of (v:=v) (o:=(atKey xs k).map (·.2)) (by rw[l];exact rel.val k)
  obtain⟨p,hp,hp2⟩:=Option.map_eq_some_iff.mp hw
  refine wpAny_getItem_heap (tupleKind_room_in1 hu) (t0y I.hok eb) dd hp ?_
  rw[hp2]
  exact h w' _ (I.tok _) rw'
theorem p0i {h':Heap}{t':Nat}{ob:HO}(I:Inv X pins σ H s)(mu:Mut (H a))(hs:Heap.SameBut a s.heap h')(he:∃q,h'.get? a=some q)(new:c0s X.prog X.w (upd H a ob) h' a ob) :
  Inv X pins σ (upd H a ob) {s with heap:=h',toks:=t'} :=
 I.write (x:=a) (e:=a) mu (.inl rfl) (fun b q hb z=>(hs.2 b hb).trans z) he new
theorem x0w {P:Program}{w:World}{H':Hp}{h':Heap}{kvs:List (Key×V)}{vs:List (Key×Value)}(z:kvs.length<=sizeLine)(hd:(a==sysModules)=false)(rel:KV kvs vs)(dd:h'.DictOf (c0a P w) a vs) :
  c0s P w H' h' a (.dK kvs):=⟨z,hd,vs,rel,dd⟩
theorem u0r {H':Hp}{Q:Unit->Shared->Prop}(hu:A.units+1<cLine)(I:Inv X pins σ H s)(g:DPut H a y v H')(ry:RelV y u)(rv:RelV v r)(h:∀s',Inv X pins σ H' s'->Q () s') :
  wpAny (model X.prog X.w) A (setItem (.ref a) u r) Q E s:=by
 rcases g with⟨kvs,k,e,ey,l,eH⟩ | ⟨kvs,k,b,e,ey,eb,l,eH⟩
 ·subst ey eH
  obtain⟨z,hd,vs,rel,dd⟩:=d1e I.hok e
  have hz:vs.length<=sizeLine:=by rw[<- rel.length];exact z
  have hl:(putK kvs k v).length<=sizeLine:=by have:=f0y kvs k v;omega
  refine wpAny_setItem_pairs (hsz:=hz) (w0i ry) dd fun h' dd' hs=>h _ ?_
  have he:∃q,h'.get? a=some q:=let ⟨q,_,_,hq,_⟩:=dd';⟨q,hq⟩
  exact p0i I (by rw[e];exact True.intro) hs he (x0w hl hd (rel.put k rv) dd')
 ·subst ey eH
  cases (show u=Value.ref b from ry)
  obtain⟨z,hd,xs,rel,dd⟩:=d1y I.hok e
  have hz:xs.length<=sizeLine:=by rw[<- Paired.length rel];exact z
  have hl:(putK kvs k v).length<=sizeLine:=by have:=f0y kvs k v;omega
  refine wpAny_setItem_heap (hsz:=hz) (tupleKind_room_in1 hu) (t0y I.hok eb) dd fun h' dd' hs=>h _ ?_
  obtain⟨q,es,ep,hq,h2,h3,h4,_,h5⟩:=dd'
  refine p0i I (by rw[e];exact True.intro) hs ⟨q,hq⟩ ⟨hl,hd,_,(rel.put k eb rv).keeps fun c ys ec=>?_,q,es,ep,hq,h2,h3,h4,h5⟩
  rw[a0o (z0c ec e (fun z=>nomatch z))]
  exact ec
end
def NoSl (i:Expr):Prop:=∀ov iv,subscripted i false ov iv=operate [ov,iv] (getItem ov iv)
theorem y0l {prog:Program}{w:World}{A:Around}{E:Value->Shared->Prop}{s:Shared}{env:Env}{value slice:Expr}{pos:Pos}{T id:String}{Q:Value->Shared->Prop}
  (hl:typeLookup (.type T) "__getitem__" = pure (some (.builtin id))) (hs:NoSl slice)
  (h:wpAny (model prog w) A (eval value env) (fun o s₁=>wpAny (model prog w) A (eval slice env) (fun i s₂=>s₂.TypeIs o T/\wpAny (model prog w) A (getItem o i) Q E s₂) E s₁) E s) :
  wpAny (model prog w) A (eval (.Subscript value slice pos) env) Q E s:=by
 refine Subscript_ (wpAny_mono h (fun o s₁ h₁=>wpAny_mono h₁ (fun i s₂ h₂=>?_) fun _ _ x=>x) fun _ _ x=>x)
 obtain⟨hT,h₂⟩:=h₂
 unfold subscriptTail
 refine wpAny_bind ?_
 rw[getitemInPython_of_ne hT.not_modules]
 refine wpAny_bind (wpAny_specialOf hT hl ?_)
 have fin:wpAny (model prog w) A (subscripted slice false o i) (fun r s₃=>wpAny (model prog w) A (letTemporaryGo value o r>>=fun _=>pure r) Q E s₃) E s₂:=by
  rw[hs o i]
  exact wpAny_operating (wpAny_mono h₂ (fun r s₃ h₃=>wpAny_bind (wpAny_letTemporaryGo (wpAny_pure h₃))) fun _ _ x=>x)
 first
  | exact wpAny_pure (wpAny_bind fin)
  | exact wpAny_bind (wpAny_pure (wpAny_bind fin))
  | exact wpAny_bind fin
theorem p0g {X:Cx}{pins:List (Addr×Obj)}{σ:St}{H:Hp}{s:Shared}{a:Addr}{y:V}{o:Option V}(I:Inv X pins σ H s)(g:DGet H a y o):s.TypeIs (.ref a) "dict" := by
 rcases g with⟨kvs,k,e,_,_⟩ | ⟨kvs,k,b,e,_,_,_⟩
 ·obtain⟨_,_,vs,_,dd⟩:=z0t I.hok e
  exact dd.typeIs
 ·obtain⟨_,_,xs,_,dd⟩:=z0r I.hok e
  exact dd.typeIs
def d1o (td ty:TE):TE:=fun σ H Q=>td σ H fun x H1=>ty σ H1 fun y H2=>∃a v,x = .ref a/\DGet H2 a y (some v)/\Q v H2
def d1p (td ty tv:TE):TS:=fun D σ H=>tv σ H fun v H1=>td σ H1 fun x H2=>ty σ H2 fun y H3=>∃a H4,x = .ref a/\DPut H3 a y v H4/\D.nx σ H4
section
variable {X:Cx}{o i e value:Expr}{pos pos' tpos:Pos}{td ty tv:TE}
theorem i0j (hu:X.A.units+1<cLine)(ho:PE X o td)(hi:PE X i ty)(hs:NoSl i):PE X (.Subscript o i pos) (d1o td ty):=by
 intro pins s σ H Q I h
 refine y0l PySem.F.slot_dict_getitem.lookup hs (thn (ho pins s σ H _ I h) fun u s1 ⟨x,H1,I1,rx,q1⟩=>thn (hi pins s1 σ H1 _ I1 q1) fun iv s2 ⟨y,H2,I2,ry,a,v,ex,g,q2⟩=>?_)
 subst ex
 obtain rfl:u=Value.ref a:=rx
 exact⟨p0g I2 g,u0s hu I2 g ry fun w' s3 I3 rw'=>⟨v,H2,I3,rw',q2⟩⟩
theorem o0n (hu:X.A.units+1<cLine)(ho:PE X o td)(hi:PE X i ty)(hv:PE X value tv)(hs:swapsWith value (some (.Subscript o i pos')) pos.line X.env=pure false) :
  PS X (.Assign [.Subscript o i pos'] value pos) (d1p td ty tv):=by
 intro pins s σ H D I h
 refine wpAny_Assign_Subscript (thn (hv pins s σ H _ I h) fun r s1 ⟨v,H1,I1,rv,q1⟩=>thn (ho pins s1 σ H1 _ I1 q1) fun u s2 ⟨x,H2,I2,rx,q2⟩=>thn (hi pins s2 σ H2 _ I2 q2) fun iv s3 ⟨y,H3,I3,ry,a,H4,ex,g,q3⟩=>?_) hs
 subst ex
 obtain rfl:u=Value.ref a:=rx
 exact u0r hu I3 g ry rv fun s4 I4=>⟨σ,H4,I4,q3⟩
end
theorem w0o {P:Program}{w:World}{H:Hp}(h:Heap)(hb:sysModules<h.objs.size):c0s P w H (h.push {cls:=.type "dict",data:=.dict #[]}) h.objs.size (.dK []) :=
 ⟨Nat.zero_le _,beq_eq_false_iff_ne.mpr (Ne.symm (Nat.ne_of_lt hb)),[],.nil,Heap.DictOf.new h⟩
def s0n:List (TE×TE)->St->Hp->(List (V×V)->Hp->Prop)->Prop
 | [],_,H,Q=>Q [] H
 | (tk,tv)::r,σ,H,Q=>tk σ H fun x H1=>tv σ H1 fun y H2=>s0n r σ H2 fun ps H3=>Q ((x,y)::ps) H3
abbrev VV:List (V×V)->List (Value×Value)->Prop:=Paired fun p q=>RelV p.1 q.1/\RelV p.2 q.2
def PPs (X:Cx)(pos:Pos)(keys:List (Option Expr))(values:List Expr)(trs:List (TE×TE)):Prop :=
 ∀(pins:List (Addr×Obj)) (s:Shared) (σ:St) (H:Hp) (Q:List (V×V)->Hp->Prop),Inv X pins σ H s->s0n trs σ H Q ->
  wpAny (model X.prog X.w) X.A (evalPairs (pairTrees keys values X.env pos)) (fun vs s'=>∃ps H',Inv X pins σ H' s'/\VV ps vs/\Q ps H') X.xe s
theorem y0s {X:Cx}{pos:Pos}:PPs X pos [] [] []:=fun pins s σ H Q I h=>pairTrees_nil_walk ⟨[],H,I,.nil,h⟩
theorem l0e {X:Cx}{pos:Pos}{k v:Expr}{ks:List (Option Expr)}{vs:List Expr}{tk tv:TE}{trs:List (TE×TE)}(hk:PE X k tk)(hv:PE X v tv)(hr:PPs X pos ks vs trs) :
  PPs X pos (some k::ks) (v::vs) ((tk,tv)::trs):=fun pins s σ H Q I h =>
 pairTrees_cons_walk (thn (hk pins s σ H _ I h) fun u s1 ⟨x,H1,I1,rx,q1⟩=>thn (hv pins s1 σ H1 _ I1 q1) fun w2 s2 ⟨y,H2,I2,ry,q2⟩ =>
  thn (hr pins s2 σ H2 _ I2 q2) fun ws s3 ⟨ps,H3,I3,rel,q3⟩=>⟨(x,y)::ps,H3,I3,.cons ⟨rx,ry⟩ rel,q3⟩)
def i0p (kvs more:List (Key×V)):List (Key×V):=more.foldl (fun acc kv=>putK acc kv.1 kv.2) kvs
theorem KV.merge:∀ {more:List (Key×V)} {rs:List (Key×Value)} {kvs:List (Key×V)} {vs:List (Key×Value)},KV more rs->KV kvs vs->KV (i0p kvs more) (merged vs rs):=by
 intro more rs kvs vs r
 unfold KV at r
 induction r generalizing kvs vs with
 | nil=>intro q;exact q
 | @cons p q ps qs h t ih =>
  intro r0
  have e:KV (putK kvs p.1 p.2) (stored vs q.1 q.2):=by
   have:=r0.put p.1 h.2
   rw[<- h.1];exact this
  exact ih e
theorem g0l:∀(more kvs:List (Key×V)),(i0p kvs more).length<=kvs.length+more.length
 | [],kvs=>by show kvs.length<=kvs.length+0;omega
 | p::r,kvs=>by
  have h1:=g0l r (putK kvs p.1 p.2)
  have h2:=f0y kvs p.1 p.2
  show(i0p (putK kvs p.1 p.2) r).length<=_
  rw[List.length_cons];omega
theorem k0p {P:Program}{w:World}:∀ {kvs:List (Key×V)} {ws:List (Value×Value)},VV (kvs.map fun kv=>(kV kv.1,kv.2)) ws->∃rs,Carries (c0a P w) ws rs/\KV kvs rs
 | [],_,r=>by rw[List.map_nil]at r;cases r;exact⟨[],True.intro,.nil⟩
 | p::kvs,_,r=>by
  rw[List.map_cons]at r
  cases r with
  | @cons a b as bs h t =>
   obtain⟨rs,c,q⟩:=k0p (P:=P) (w:=w) t
   obtain⟨b1,b2⟩:=b
   exact⟨(p.1,b2)::rs,⟨w0i h.1,rfl,c⟩,.cons ⟨rfl,h.2⟩ q⟩
def d1n (trs:List (TE×TE)):TE:=fun σ H Q=>∀p,H p=none->s0n trs σ (upd H p (.dK [])) fun ps H2=>H2 p=some (.dK [])/\∃kvs:List (Key×V),ps=kvs.map (fun kv=>(kV kv.1,kv.2))/\kvs.length<=15/\Q (.ref p) (upd H2 p (.dK (i0p [] kvs)))
theorem y0u {X:Cx}{pos:Pos}{keys:List (Option Expr)}{values:List Expr}{trs:List (TE×TE)}(h:PPs X pos keys values trs)(hall:keys.all (·.isSome)=true)(hl:keys.length=values.length)(h0:keys≠[])
  (h15:keys.length<=15):PE X (.Dict keys values pos) (d1n trs):=by
 intro pins s σ H Q I q
 have hn:=I.hok.fresh (Nat.le_refl s.heap.objs.size)
 have I1:=I.laid (a:=s.heap.objs.size) (o:=.dK []) (h':=s.heap.push {cls:=.type "dict",data:=.dict #[]}) (t':=s.toks) (fun _ _ q=>Heap.get?_push_of_some _ q) (Nat.le_refl _) (w0o s.heap I.big)
 refine wpAny_Dict_walk (knd:=c0a X.prog X.w) hall hl h0 h15 (thn (h pins _ σ _ _ I1 (q _ hn)) fun ws s2 ⟨ps,H2,I2,rel,e,kvs,ep,lk,q2⟩=>?_)
 subst ep
 obtain⟨rs,c,rk⟩:=k0p (P:=X.prog) (w:=X.w) rel
 obtain⟨z,hd,vs0,r0,dd⟩:=d1e I2.hok e
 cases r0
 refine⟨rs,c,dd,fun h' dd' hs=>⟨.ref s.heap.objs.size,_,?_,rfl,q2⟩⟩
 have hz:(i0p [] kvs).length<=sizeLine:=by
  have h1:=g0l kvs []
  rw[List.length_nil]at h1
  rw[sizeLine_eq];omega
 have he:∃q,h'.get? s.heap.objs.size=some q:=let ⟨q,_,_,hq,_⟩:=dd';⟨q,hq⟩
 exact p0i I2 (by rw[e];exact True.intro) hs he (x0w hz hd (rk.merge .nil) dd')
end L2
namespace Att
open PySem PySem.W PySem.Calls PyProof.Rows
theorem i0t {P:Params}{h:Heap}:∀(ns:List Int) (vs:List Value),WellAll P h vs (ns.map WData.int)->IntsAre vs ns:=by
 intro ns
 induction ns with
 | nil =>
  intro vs w
  rw[List.map_nil]at w
  cases w
  exact .nil
 | cons n ns ih =>
  intro vs w
  rw[List.map_cons]at w
  cases w with
  | cons a b =>
   cases a
   exact .cons _ _ (ih _ b)
theorem s0y {l:OpenLaw}{n:Nat}(hn:l.most=some n){P:Params}{h:Heap}{args:List WData}{vals:List Value}
  (hpre:l.row.toRowW.claim.pre args=true) (hwl:WellAll P h vals args) :
  ∃a vs ns,vals=[Value.ref a]/\args=[WData.list (ns.map WData.int)]/\h.get? a=some {cls:=.type "list",data:=.seq vs.toArray}/\IntsAre vs ns/\ns.length<=n:=by
 have hsh:WShape.hasAll [] args [.list .int]=true:=(pre_splitW hpre).1
 have hc:l.pre.holds [] {args:=args}=true:=(pre_splitW hpre).2
 obtain⟨d,r,rfl,h1,h2⟩:=hasAllW_cons hsh
 obtain rfl:=hasAllW_nil h2
 obtain⟨xs,rfl,h3⟩:=hasW_list h1
 obtain⟨ns,rfl⟩:=items_int h3
 have hlen:ns.length<=n:=by
  unfold OpenLaw.pre at hc
  have h4:(WTm.not (.lt (.lit (.int (n:Int))) (.len (.arg 0)))).holds [] {args:=[.list (ns.map .int)]}=true:=by
   have h4:=(holds_andW hc).1
   rw[hn]at h4
   exact h4
  have h5:=condW_of h4 (w_not (w_lt w_lit (w_len_list (w_arg rfl))))
  rw[List.length_map]at h5
  refine Nat.le_of_not_lt fun q=>?_
  have q':(n:Int)<((ns.length:Nat):Int):=by omega
  first
   | (rw[decide_eq_true q']at h5;exact absurd h5 (by decide))
   | (simp at h5;omega)
 cases hwl with
 | cons w1 w2 =>
  cases w2
  cases w1 with
  | list ho hall=>exact⟨_,_,ns,rfl,rfl,ho,i0t ns _ hall,hlen⟩
theorem t0g (l:OpenLaw)(args:List WData):l.row.toRowW.claim.post args (.bool true) args=true :=
 postW_of (r:=l.row.toRowW) (X:=(true==true))
  (show WShape.has [] (.bool true) .bool=true by first | rfl | decide | simp[WShape.has,WShape.arms,WShape.armsAll])
  (show(WTm.eq .res (.lit (.bool true))).value [] {args:=args,res:=some (.bool true),after:=args}=some (.bool (true==true))from w_eq_bool (w_res rfl) w_lit) rfl
theorem attach_call {l:OpenLaw}{n:Nat}{q:Program}{loose:List Str}{XP:(Str->Option Value)->Heap->Prop}{YP:World->Heap->Prop}{d:DefRec}
  (hn:l.most=some n) (hdf:d.params.defaults=[])
  (call:∀(w:World) (s₀ s₁:Shared) (mg mb:Str->Option Value) (fa:Addr) (o:Obj) (pm cd doc:Value) (a:Addr) (vs:List Value) (ns:List Int),
   Ground q loose [] XP w s₀ mg mb s₁.heap->YP w s₁.heap ->
   s₁.heap.get? fa=some o->o.data = .func (docDef d.name d.params d.body d.scope pm cd doc)->s₁.heap.CodeRec cd d.name->mg d.name=some (.ref fa) ->
   s₁.heap.get? a=some {cls:=.type "list",data:=.seq vs.toArray}->IntsAre vs ns->ns.length<=n->s₁.gens = #[] ->
   codeAny (model l.prog w) callerA (.call (.ref fa) ⟨[.ref a],[]⟩) (fun r s'=>r = .ok (.ret (.bool true))/\OldK s₁.heap s'.heap/\s'.os=s₁.os/\AllBare s'.gens) s₁) :
  WalkO q loose XP YP l.row.toRowW d [] (fun f vs=>PySem.call f vs):=by
 intro w s₀ s₁ mg mb G Y fa o pm cd doc dV kV ho hd hcd hD hmg hg args vals as hpre hlay hrd hwl hlo
 obtain rfl:dV = .none:=Dflts.none hD hdf
 obtain rfl:kV = .none:=Dflts.noKw hD
 obtain⟨a,vs,ns,rfl,rfl,hobj,hints,hlen⟩:=s0y hn hpre hwl
 refine enter_call (codeAny_mono (call w s₀ s₁ mg mb fa o pm cd doc a vs ns G Y ho (fd_plain hd) hcd hmg hobj hints hlen hg) fun r s' hq=>?_)
 obtain⟨rfl,h2,h3,h4⟩:=hq
 exact⟨.inl ⟨.bool true,.bool true,[],rfl,fun _=>rfl,.bool true,t0g l _,fun _=>⟨List.Pairwise.nil,fun _ hm=>(nomatch hm)⟩⟩,h2,h3,h4⟩
end Att
namespace L2
open PySem PySem.Spec PyProof.Rows
theorem i0b:∀ {vs:List Value} {ns:List Int},IntsAre vs ns->Vals (ns.map V.int) vs
 | _,_,.nil=>.nil
 | _,_,.cons n t h=>.cons ⟨t,rfl⟩ (i0b h)
def Only (H:Hp):Prop:=∀b,H b=none ∨ ∃o xs,H b=some (.frz o (.lst xs))
theorem w0h {P:Program}{w:World}{K:PySem.W.Frag}{mg mb:Str->Option Value}{CX:CXT}{k:Nat}{fa a:Addr}{fd:FuncData}{x:Str}{sp:Sp}{s₁:Shared}{vs:List Value}{ns:List Int}
  (KX:K.In s₁.heap) (hns:s₁.heap.Ns mainGlobals mg) (hb:s₁.heap.Ns builtinsNs mb) (hbb:∀x:Str,x ≠ "__name__" -> mb x=bootBuiltins x) (hlim:s₁.heap.NoLimit) (hg:s₁.gens = #[])
  (ha:s₁.heap.get? a=some {cls:=.type "list",data:=.seq vs.toArray}) (hi:IntsAre vs ns) (hl:ns.length<=sizeLine) (hr:Room k callerA)
  (F:∀base:Heap,K.In base->base.Ns mainGlobals mg->FnOk P w K mg base CX k fa fd [x] sp) (hbind:∀(s:Shared) (u:Value),BindsTo s fd ⟨[u],[]⟩ [(x,u)])
  (hsp:∀H:Hp,Only H->SqL K H a (ns.map V.int)->sp [.ref a] H (fun v _=>v = .bl true) fun _ _ _=>False)
  (hCX:∀H e s',CX [] H s₁ (fun _ _ _=>False) e s'->False) :
  codeAny (model P w) callerA (.call (.ref fa) ⟨[.ref a],[]⟩) (fun r s'=>r = .ok (.ret (.bool true))/\OldK s₁.heap s'.heap/\s'.os=s₁.os/\AllBare s'.gens) s₁:=by
 have rv:=i0b hi
 have lenV:=hi.length
 have core:∀H:Hp,Only H->SqL K H a (ns.map V.int)->HOk P w H s₁.heap->(∀b,H b≠none->b=a)->(H a≠none->K.lookup a=none) ->
   codeAny (model P w) callerA (.call (.ref fa) ⟨[.ref a],[]⟩) (fun r s'=>r = .ok (.ret (.bool true))/\OldK s₁.heap s'.heap/\s'.os=s₁.os/\AllBare s'.gens) s₁:=by
  intro H hO hS hok hA hK
  have base_of:∀ {b:Addr} {o:Obj},s₁.heap.get? b=some o->H b=none->(hidT s₁.heap H).get? b=some o:=fun e n=>w0m e n
  have noA:∀ {b:Addr} {o:Obj} {es:Array DictEntry} {ep:Nat},s₁.heap.get? b=some o->o.data = .dict es ep->H b=none:=fun{b o es ep} e d=>by
   cases q:H b with
   | none=>rfl
   | some u =>
    have e':b=a:=hA b (by rw[q];simp)
    subst e'
    rw[ha]at e;cases e
    have d':Data.seq vs.toArray _=Data.dict es ep:=d
    cases d'
  have nsK:∀ {b:Addr} {m:Str->Option Value},s₁.heap.Ns b m->(hidT s₁.heap H).Ns b m:=fun{b m} ⟨o,es,ep,e,d,r⟩=>⟨o,es,ep,base_of e (noA e d),d,r⟩
  have hKb:K.In (hidT s₁.heap H):=fun b o e=>base_of (KX b o e) (by
   cases q:H b with
   | none=>rfl
   | some u =>
    have e':b=a:=hA b (by rw[q];simp)
    subst e'
    rw[hK (by rw[q];simp)]at e;cases e)
  have hM:Mod K mg (hidT s₁.heap H):=⟨hKb,nsK hns,⟨mb,nsK hb,hbb⟩,let ⟨mc,h1,h2⟩:=hlim;⟨mc,nsK h1,h2⟩⟩
  have e0:Env0 P w K mg (hidT s₁.heap H) callerA [] s₁ H:=⟨rfl,hM,fun b o e=>z0a e,Nat.le_of_eq (u0e _ _),trivial,fun b hb=>absurd (show b∈([]:List Addr)from hb) (by simp),hok,.of_eq hg⟩
  refine codeAny_mono ((F _ hKb (nsK hns)).run callerA [] s₁ H ⟨[.ref a],[]⟩ [.ref a] [.ref a] _ _ hr e0 (hbind s₁ (.ref a)) (.cons rfl .nil) (hsp H hO hS)) fun r s' h=>?_
  cases r with
  | error e=>exact(hCX H e s' h).elim
  | ok fl =>
   cases fl with
   | next=>exact False.elim h
   | brk=>exact False.elim h
   | cont=>exact False.elim h
   | ret u =>
    obtain⟨v,H',os,bare,un,hok',r',q⟩:=h
    have q':v = .bl true:=q
    subst q'
    obtain rfl:u=Value.bool true:=r'
    refine⟨rfl,OldK.of_keep fun b o e=>?_,os,bare⟩
    cases q:H b with
    | none=>exact un.keep b o e q (by intro z;exact absurd (show b∈([]:List Addr)from z) (by simp)) (by simp)
    | some u =>
     rcases hO b with z | ⟨ob,xs,z⟩
     ·rw[q]at z;cases z
     ·have z2:=un.frzs b ob _ z
      obtain⟨e1,_⟩:=hok b _ z
      obtain⟨e2,_⟩:=hok' b _ z2
      rw[e]at e1;cases e1
      exact e2
 cases hk:K.lookup a with
 | some o =>
  have e:=KX a o hk
  rw[ha]at e
  cases e
  refine core (fun _=>none) (fun _=>.inl rfl) (.inr ⟨_,vs.toArray,_,hk,rfl,rfl,rfl,by rw[List.size_toArray,lenV];exact hl,by simpa using rv⟩) (fun b u z=>by have z':(none:Option HO)=some u:=z;cases z') (fun b z=>absurd rfl z) fun z=>absurd rfl z
 | none =>
  refine core (fun b=>if b=a then some (.frz {cls:=.type "list",data:=.seq vs.toArray} (.lst (ns.map V.int)))else none) (fun b=>?_) (.inl (.inr ⟨{cls:=.type "list",data:=.seq vs.toArray},if_pos rfl⟩)) (fun b u z=>?_) (fun b z=>?_) fun _=>hk
  ·by_cases hb:b=a
   ·exact .inr ⟨_,_,if_pos hb⟩
   ·exact .inl (if_neg hb)
  ·by_cases hb:b=a
   ·have z':=(if_pos hb).symm.trans z
    cases z'
    subst hb
    exact⟨ha,by rw[List.length_map];exact hl,vs,_,rv,ha⟩
   ·have z':=(if_neg hb).symm.trans z
    cases z'
  ·by_cases hb:b=a
   ·exact hb
   ·exact absurd (if_neg hb) z
abbrev KOf {K:PySem.W.Frag}{h:Heap}(_:K.In h):PySem.W.Frag:=K
theorem y0h {l:PySem.W.OpenLaw}{n k:Nat}{q:Program}{loose:List Str}{XP:(Str->Option Value)->Heap->Prop}{YP:World->Heap->Prop}{d:DefRec}{K:Params->PySem.W.Frag}{CX:World->CXT}{sp:World->Sp}{x:Str}
  (hn:l.most=some n) (hn2:n<=sizeLine) (hdf:d.params.defaults=[]) (hr:Room k callerA)
  (hY:∀(w:World) (h:Heap),YP w h->(K w.params).In h)
  (F:∀(w:World) (mg:Str->Option Value) (fa:Addr) (h:Heap),(K w.params).In h->h.Ns mainGlobals mg->mg d.name=some (.ref fa) ->
   ∃fd:FuncData,(∀(s:Shared) (u:Value),BindsTo s fd ⟨[u],[]⟩ [(x,u)]) /\
    ∀base:Heap,(K w.params).In base->base.Ns mainGlobals mg->FnOk l.prog w (K w.params) mg base (CX w) k fa fd [x] (sp w))
  (hsp:∀(w:World) (H:Hp) (a:Addr) (ns:List Int),ns.length<=n->Only H->SqL (K w.params) H a (ns.map V.int)->sp w [.ref a] H (fun v _=>v = .bl true) fun _ _ _=>False)
  (hCX:∀(w:World) (H:Hp) (s:Shared) (e:Value) (s':Shared),CX w [] H s (fun _ _ _=>False) e s'->False) :
  PySem.W.WalkO q loose XP YP l.row.toRowW d [] (fun f vs=>PySem.call f vs):=by
 refine Att.attach_call hn hdf fun w s₀ s₁ mg mb fa o pm cd doc a vs ns G Y ho hd hcd hmg hobj hints hlen hg=>?_
 have KX:=hY w _ Y
 obtain⟨fd,hb,hF⟩:=F w mg fa _ KX G.T.g hmg
 exact w0h KX G.T.g G.T.b G.T.builtins G.T.nolimit hg hobj hints (Nat.le_trans hlen hn2) hr hF hb (fun H hO hS=>hsp w H a ns hlen hO hS) fun H e s'=>hCX w H s₁ e s'
theorem v0m {l:PySem.W.OpenLaw}{n k:Nat}{q:Program}{loose:List Str}{XP:(Str->Option Value)->Heap->Prop}{YP:World->Heap->Prop}{d:DefRec}{K:Params->PySem.W.Frag}{CX:CXT}{sp:PySem.W.Frag->Sp}{x:Str}
  (hn:l.most=some n) (hn2:n<=sizeLine) (hdf:d.params.defaults=[]) (hr:Room k callerA)
  (hY:∀(w:World) (h:Heap),YP w h->(K w.params).In h)
  (F:∀(w:World) (mg:Str->Option Value) (fa:Addr) (h:Heap),(K w.params).In h->h.Ns mainGlobals mg->mg d.name=some (.ref fa) ->
   ∃fd:FuncData,(∀(s:Shared) (u:Value),BindsTo s fd ⟨[u],[]⟩ [(x,u)]) /\
    ∀base:Heap,(K w.params).In base->base.Ns mainGlobals mg->FnOk l.prog w (K w.params) mg base CX k fa fd [x] (sp (K w.params)))
  (hsp:∀(K:PySem.W.Frag) (H:Hp) (a:Addr) (ns:List Int),ns.length<=n->Only H->SqL K H a (ns.map V.int)->sp K [.ref a] H (fun v _=>v = .bl true) fun _ _ _=>False)
  (hCX:∀(H:Hp) (s:Shared) (e:Value) (s':Shared),CX [] H s (fun _ _ _=>False) e s'->False) :
  PySem.W.WalkO q loose XP YP l.row.toRowW d [] (fun f vs=>PySem.call f vs) :=
 y0h (K:=K) (CX:=fun _=>CX) (sp:=fun w=>sp (K w.params)) hn hn2 hdf hr hY F (fun w H a ns h1 h2 h3=>hsp (K w.params) H a ns h1 h2 h3) fun _ H s e s'=>hCX H s e s'
def i0x (s:Stmt):Arguments:=match s with
 | .FunctionDef _ a _ _ _ _ _ _ _ _=>a
 | _=>{posonlyargs:=[],args:=[],vararg:=none,kwonlyargs:=[],kw_defaults:=[],kwarg:=none,defaults:=[]}
def e0m (s:Stmt):List Stmt:=match s with
 | .FunctionDef _ _ b _ _ _ _ _ _ _=>b
 | _=>[]
def a0i (s:Stmt):Scope:=match s with
 | .FunctionDef _ _ _ _ _ _ sc _ _ _=>sc
 | _=>{kind:=.function,names:=[],isGenerator:=false,isCoroutine:=false}
abbrev CX0:CXT:=fun _ _ _ _ _ _=>False
abbrev E0:XK:=fun _ _ _=>False
theorem d1s {X:Cx}:v0i CX0 X E0:=fun _ _ _ _ _ _ _ h=>h.elim
structure Fun (K:PySem.W.Frag)(x qual:Str)(st:Stmt)(f:Addr)(fd:FuncData):Prop where
 ex:∃(oc:Value) (od:Option Addr) (kV doc pm:Value) (an:Option Addr) (cdv ct:Value) (osl:Array (Option Value)),
  fd=PySem.W.fnOf x qual (i0x st) (e0m st) (a0i st) .none kV doc pm an cdv ct/\K.lookup f=some ⟨oc,od,.func fd,osl⟩/\PySem.W.codeIn K cdv qual=true
 kp:PySem.W.keepIn K (.ref f)=true
section
variable {P:Program}{w:World}{K:PySem.W.Frag}{mg:Str->Option Value}{base:Heap}
theorem Fun.ok {x qual:Str}{st:Stmt}{f:Addr}{fd:FuncData}{N ps:List Str}{k:Nat}{sp:Sp}(F:Fun K x qual st f fd)(S:b0f N ps (a0i st))(len:∀vs H Q E,sp vs H Q E->vs.length=ps.length)
  (hbody:∀(cdv:Value) (A:Around) (outer:List Env) (s:Shared) (H:Hp) (vs:List V) (Q:VK) (E:XK),Room k (A.deeper (envOfC qual (a0i st) s.heap.objs.size f cdv))->sp vs H Q E ->
   ∃t,PSs (cxOf CX0 P w K mg base N qual (a0i st) f cdv A outer s H E).nox (e0m st) t/\t {nx:=fun _ H'=>Q .non H',rt:=Q} (start N vs) H):FnOk P w K mg base CX0 (k+1) f fd ps sp:=by
 obtain⟨oc,od,kV,doc,pm,an,cdv,ct,osl,rfl,lk,hcd⟩:=F.ex
 refine d1x lk hcd S len fun A outer s H vs Q E hr hsp=>?_
 obtain⟨t,h,q⟩:=hbody cdv A outer s H vs Q E hr hsp
 exact⟨t,h.nox,q⟩
theorem d1c {x qual:Str}{st:Stmt}{f:Addr}{oc:Value}{od an:Option Addr}{osl:Array (Option Value)}{kV doc pm cdv ct:Value}(l:K.lookup f=some ⟨oc,od,.func (PySem.W.fnOf x qual (i0x st) (e0m st) (a0i st) .none kV doc pm an cdv ct),osl⟩)
  (c:PySem.W.codeIn K cdv qual=true) (k:PySem.W.keepIn K (.ref f)=true):Fun K x qual st f (PySem.W.fnOf x qual (i0x st) (e0m st) (a0i st) .none kV doc pm an cdv ct):=⟨⟨oc,od,kV,doc,pm,an,cdv,ct,osl,rfl,l,c⟩,k⟩
end
theorem f0n {A:Around}{k:Nat}(hr:Room k A):A.units+1<cLine:=Nat.lt_of_le_of_lt (Nat.add_le_add_left (by decide:1<=64) _) hr.units
theorem e0y {n:Nat}(h:n<=1000):n<sizeLine:=Nat.lt_of_le_of_lt h (by decide)
section
variable {X:Cx}
theorem pv (i:Nat){x:Str}{pos:Pos}(hN:X.N[i]? = some x:=by rfl)(hv:Vis X.env.scope x:=by first | exact Or.inl rfl | exact Or.inr (Or.inl rfl) | exact Or.inr (Or.inr rfl))(hd:(x==("__debug__" : Str))=false:=by decide)
  (hcd:(x==("__classdict__" : Str))=false:=by decide):PE X (.Name x pos) (tVar i):=b1y hN hv hd hcd
end
theorem ite2 {c A B:Prop} [Decidable c](h1:c->A)(h2:¬c->B):if c then A else B:=by
 by_cases h:c
 ·rw[if_pos h]
  exact h1 h
 ·rw[if_neg h]
  exact h2 h
def Same (H H':Hp):Prop:=∀b o,H b=some o->H' b=some o
theorem Same.refl (H:Hp):Same H H:=fun _ _ h=>h
theorem Same.trans {H H1 H2:Hp}(a:Same H H1)(b:Same H1 H2):Same H H2:=fun c o h=>b c o (a c o h)
theorem Same.free {H H':Hp}(e:Same H H'){l:Addr}(h:H' l=Option.none):H l=Option.none:=by
 cases q:H l with
 | none=>rfl
 | some o =>
  rw[e l o q]at h
  cases h
theorem Same.seq {K:PySem.W.Frag}{H H':Hp}{a:Addr}{xs:List V}(e:Same H H')(h:SqL K H a xs):SqL K H' a xs:=by
 rcases h with(h | ⟨o,h⟩) | h
 ·exact .inl (.inl (e _ _ h))
 ·exact .inl (.inr ⟨o,e _ _ h⟩)
 ·exact .inr h
def f0d (cells:List (Str×Addr)):List (Str×NameKind)->List (Str×Addr)->List (Str×Addr)
 | [],cs=>cs
 | (n,k)::r,cs=>f0d cells r (if k == .free then(match cells.lookup n with | some c=>(n,c)::cs | none=>cs)else cs)
def d0c (scope:Scope)(env:Env):List (Str×Addr):=f0d env.cells scope.names []
theorem r0u (env:Env):∀(names:List (Str×NameKind)) (cs:List (Str×Addr)),(∀x∈names,x.2 = .free->∃c,env.cells.lookup x.1=some c) ->
  (forIn names cs fun(x:Str×NameKind) (r:List (Str×Addr))=>(if(x.2 == .free)=true then(do let a <- cellOf env x.1;pure (ForInStep.yield ((x.1,a)::r)))else pure (ForInStep.yield r):Sem (ForInStep (List (Str×Addr)))))=pure (f0d env.cells names cs):=by
 intro names
 induction names with
 | nil=>intro cs _;rfl
 | cons x r ih =>
  intro cs h
  obtain⟨n,k⟩:=x
  rw[List.forIn_cons]
  have hr:∀y∈r,y.2 = .free->∃c,env.cells.lookup y.1=some c:=fun y hy=>h y (List.mem_cons_of_mem _ hy)
  unfold f0d
  by_cases hk:k = .free
  ·subst hk
   obtain⟨c,hc⟩:=h (n,.free) List.mem_cons_self rfl
   have e:cellOf env n=pure c:=by unfold cellOf;rw[hc]
   rw[if_pos (show(NameKind.free==NameKind.free)=true from rfl),if_pos (show(NameKind.free==NameKind.free)=true from rfl),hc]
   show(cellOf env n>>=fun a=>_)>>=_=_
   rw[e]
   exact ih _ hr
  ·have hb:(k==NameKind.free)=false:=by simpa using hk
   rw[if_neg (show ¬(k==NameKind.free)=true by rw[hb];exact Bool.false_ne_true),if_neg (show ¬(k==NameKind.free)=true by rw[hb];exact Bool.false_ne_true)]
   exact ih _ hr
theorem d0i {scope:Scope}{env:Env}(h:∀x∈scope.names,x.2 = .free->∃c,env.cells.lookup x.1=some c):closureFor scope env=pure (d0c scope env):=by
 have run:=r0u env scope.names [] h
 unfold closureFor d0c
 have e:(forIn scope.names ([]:List (Str×Addr)) fun(x:Str×NameKind) (r:List (Str×Addr))=>(match x with
   | (name,kind)=>if(kind==NameKind.free)=true then(do let a <- cellOf env name;pure (ForInStep.yield ((name,a)::r)))else pure (ForInStep.yield r):Sem (ForInStep (List (Str×Addr)))))=pure (f0d env.cells scope.names []):=run
 show(forIn scope.names ([]:List (Str×Addr)) _>>=fun cs=>pure cs)=_
 exact(congrArg (fun m:Sem (List (Str×Addr))=>m>>=fun cs=>pure cs) e)
theorem k0l (cells:List (Str×Addr)):∀(names:List (Str×NameKind)) (cs:List (Str×Addr)),(∀p∈cs,cells.lookup p.1=some p.2)->∀p∈f0d cells names cs,cells.lookup p.1=some p.2
 | [],cs,h=>h
 | (n,k)::r,cs,h=>by
  unfold f0d
  refine k0l cells r _ fun p hp=>?_
  by_cases hk:(k==NameKind.free)=true
  ·rw[if_pos hk]at hp
   cases e:cells.lookup n with
   | none=>rw[e]at hp;exact h p hp
   | some c =>
    rw[e]at hp
    rcases List.mem_cons.mp hp with rfl | hp
    ·exact e
    ·exact h p hp
  ·rw[if_neg hk]at hp
   exact h p hp
theorem c0v {scope:Scope}{env:Env}{x:Str}{c:Addr}(h:(d0c scope env).lookup x=some c):env.cells.lookup x=some c :=
 k0l env.cells scope.names [] (fun _ z=>nomatch z) (x,c) (PySem.mem_of_lookup h)
theorem d0e {cs:List (Str×Addr)}{x:Str}{c:Addr}(h:(x,c)∈cs):∃d,cs.lookup x=some d:=by
 induction cs with
 | nil=>cases h
 | cons p r ih =>
  obtain⟨y,d⟩:=p
  by_cases e:x==y
  ·exact⟨d,by rw[List.lookup_cons,e]⟩
  ·rcases List.mem_cons.mp h with z | z
   ·cases z;simp at e
   ·obtain⟨d',q⟩:=ih z
    exact⟨d',by simp only[Bool.not_eq_true]at e;rw[List.lookup_cons,e];exact q⟩
theorem j0d (cells:List (Str×Addr)):∀(names:List (Str×NameKind)) (cs:List (Str×Addr)) (p:Str×Addr),p∈cs->p∈f0d cells names cs
 | [],_,_,h=>h
 | (n,k)::r,cs,p,h=>by
  unfold f0d
  refine j0d cells r _ p ?_
  split
  ·split
   ·exact List.mem_cons_of_mem _ h
   ·exact h
  ·exact h
theorem k0m (cells:List (Str×Addr)){x:Str}{c:Addr}(hc:cells.lookup x=some c):∀(names:List (Str×NameKind)) (cs:List (Str×Addr)),(x,NameKind.free)∈names->(x,c)∈f0d cells names cs
 | [],_,h=>nomatch h
 | (n,k)::r,cs,h=>by
  unfold f0d
  rcases List.mem_cons.mp h with z | z
  ·cases z
   refine j0d cells r _ _ ?_
   rw[if_pos (show(NameKind.free==NameKind.free)=true from rfl),hc]
   exact List.mem_cons_self
  ·exact k0m cells hc r _ z
theorem h0e {scope:Scope}{env:Env}{x:Str}{c:Addr}(h:(x,NameKind.free)∈scope.names)(hc:env.cells.lookup x=some c):(d0c scope env).lookup x=some c:=by
 obtain⟨d,e⟩:=d0e (k0m env.cells hc scope.names [] h)
 have e':(d0c scope env).lookup x=some d:=e
 rw[e',<- c0v e',hc]
def blk (X:Cx)(scope:Scope)(N:List Str)(s:Shared)(H:Hp)(C:Addr)(fp:List Addr):Cx where
 prog:=X.prog
 w:=X.w
 K:=X.K
 mg:=X.mg
 base:=X.base
 A:=X.A
 N:=N
 s₀:=s
 H₀:=H
 env:=compEnvC scope (d0c scope X.env) C X.env
 outer:=X.stack
 stack:=X.stack
 ex:=fp
 fn:=fun _=>false
 calm:=X.calm
 pn:=[]
 xe:=fun _ _=>False
def capt (σ:St)(js:List Nat):St:=js.map fun j=>(σ[j]?).getD none
def capN (N:List Str)(js:List Nat):List Str:=js.map fun j=>(N[j]?).getD ""
def bst (n:Nat)(σ:St)(js:List Nat):St:=List.replicate n none++capt σ js
theorem g0b {n:Nat}{σ:St}{js:List Nat}:(bst n σ js).length=n+js.length:=by unfold bst capt;simp
section
variable {P:Program}{w:World}{A:Around}{R:Result->Shared->Prop}{s:Shared}
theorem j0b {elt tg iter:Expr}{ifs:List Expr}{scope:Scope}{pos:Pos}{it acc:Value}{env:Env}(J:Nat->Shared->Prop)
  (turn:∀n s,J n s->wpAny (model P w) A (pyNext it) (fun r s1=>match r with
   | none=>R (.ok .next) s1
   | some v=>wpAny (model P w) A (letOwnedTupleGo tg it v) (fun _ s2=>wpAny (model P w) A (assign tg env v) (fun _ s3 =>
     wpAny (model P w) A (forIn ifs true fun c r=>if r=true then do let ok <- isTrue c env (eval c env);pure (ForInStep.yield ok)else pure (ForInStep.yield r)) (fun ok s4 =>
      if ok=true then wpAny (model P w) A (eval elt env) (fun x s5=>wpAny (model P w) A (call (.builtin "list.append") [acc,x]) (fun _ s6=>∃m,m<n/\J m s6) (fun _ _=>False) s5) (fun _ _=>False) s4
      else ∃m,m<n/\J m s4) (fun _ _=>False) s3) (fun _ _=>False) s2) (fun _ _=>False) s1) (fun _ _=>False) s)
  (n:Nat) (h:J n s):codeAny (model P w) A (.compLoop (.ListComp elt [⟨tg,iter,ifs,0⟩] scope pos) 0 it acc env) R s:=by
 have no:∀ {α:Type} {t:Sem α} {Q Q':α->Shared->Prop} {E:Value->Shared->Prop} {s:Shared},wpAny (model P w) A t Q (fun _ _=>False) s->(∀a s,Q a s->Q' a s)->wpAny (model P w) A t Q' E s :=
  fun h hq=>wpAny_mono h hq fun _ _ f=>f.elim
 refine codeAny_loop rfl J (fun n s hJ=>?_) n h
 show wpAny _ A ((compTurn (.ListComp elt [⟨tg,iter,ifs,0⟩] scope pos) 0 it acc env).onRaise (fun x=>do noteFrame x env;theTreesLotGoes x)) _ _ s
 refine wpAny_noted ?_
 rw[compTurn_list]
 refine wpAny_bind (wpAny_standAt (wpAny_bind (no (turn n s hJ) fun r s1 h1=>?_)))
 cases r with
 | none=>exact wpAny_pure h1
 | some v =>
  refine wpAny_bind (no h1 fun _ s2 h2=>wpAny_bind (no h2 fun _ s3 h3=>wpAny_bind (no h3 fun ok s4 h4=>?_)))
  cases ok with
  | false=>exact wpAny_pure ⟨rfl,h4⟩
  | true=>exact wpAny_bind (wpAny_bind (no h4 fun x s5 h5=>wpAny_bind (no h5 fun _ s6 h6=>wpAny_pure (wpAny_pure ⟨rfl,h6⟩))))
end
def PTs (X:Cx)(ifs:List Expr)(t:TT):Prop :=
 ∀(pins:List (Addr×Obj)) (s:Shared) (σ:St) (H:Hp) (Q:Bool->Hp->Prop),Inv X pins σ H s->t σ H Q ->
  wpAny (model X.prog X.w) X.A (forIn ifs true fun c r=>if r=true then do let ok <- isTrue c X.env (eval c X.env);pure (ForInStep.yield ok)else pure (ForInStep.yield r)) (TP X pins σ Q) X.xe s
def tAll:TT:=fun _ H Q=>Q true H
theorem i0g {X:Cx}:PTs X [] tAll:=fun _ _ _ H _ I h=>wpAny_tests_nil ⟨H,I,h⟩
theorem d0y {X:Cx}{c:Expr}{t:TT}(h:PT X c t):PTs X [c] t:=fun pins s σ H Q I hq=>wpAny_tests_one (h pins s σ H Q I hq)
def a1j (J:It)(n:Nat)(js:List Nat)(g:TG)(tc:TT)(te:TE)(Q:VK)(σ:St)(H1:Hp):Prop:=∃W:Nat->Nat->List V->Hp->Prop,(∃m,W 0 m [] H1)/\∀i m ys H,W i m ys H ->
 (J.stop i H/\ys.length<=sizeLine/\∀l,H l=none->Q (.ref l) (upd H l (.lst ys))) ∨
 (J.go i H/\ys.length<sizeLine/\∃N:List V->Hp->Prop,(∀zs H',N zs H'->∃m',m'<m/\W (i+1) m' zs H')/\∀x H',J.yld i H x H'->g x (bst n σ js) H' fun σ2 H2=>σ2.drop n=capt σ js/\tc σ2 H2 fun b H3 =>
  if b=true then te σ2 H3 fun v H4=>N (ys++[v]) H4 else N ys H3)
def r0g (n:Nat)(js:List Nat)(wi:TI)(g:TG)(tc:TT)(te:TE):TE:=fun σ H Q=>wi σ H fun J H1=>a1j J n js g tc te Q σ H1
section
variable {X:Cx}
structure Blk (X:Cx)(scope:Scope)(own:List Str)(js:List Nat):Prop where
 kind:scope.kind = .function
 nocell:∀y∈scope.names,y.2 ≠ .cell
 names:∀y∈scope.names,y.2 = .local->scope.names.lookup y.1=some .local
 free:∀y∈scope.names,y.2 = .free->X.env.kindOf y.1=some .cell∨X.env.kindOf y.1=some .free
 uniq:∀x,(x,NameKind.free)∈scope.names->scope.names.lookup x=some .free
 nd:(own++capN X.N js).Nodup
 cap:∀j∈js,j<X.N.length/\((X.N[j]?).getD "",NameKind.free)∈scope.names
def blkB (sc:Scope)(N:List Str)(scope:Scope)(own:List Str)(js:List Nat):Bool :=
 scope.kind == .function&&scope.names.all (fun y=>y.2 != .cell)&&scope.names.all (fun y=>y.2 != .local||scope.names.lookup y.1==some .local) &&
 scope.names.all (fun y=>y.2 != .free||sc.names.lookup y.1==some .cell||sc.names.lookup y.1==some .free)&&scope.names.all (fun y=>y.2 != .free||scope.names.lookup y.1==some .free) &&
 decide (own++capN N js).Nodup&&js.all (fun j=>decide (j<N.length)&&scope.names.any fun y=>y.1==(N[j]?).getD "" && y.2 == .free)
theorem Blk.of {scope:Scope}{own:List Str}{js:List Nat}(sc:Scope)(N:List Str)(h:blkB sc N scope own js=true:=by decide +kernel)(e1:X.env.scope=sc:=by rfl)(e2:X.N=N:=by rfl):Blk X scope own js:=by
 subst e1 e2
 unfold blkB at h
 simp only[Bool.and_eq_true,List.all_eq_true,decide_eq_true_eq,beq_iff_eq]at h
 obtain⟨⟨⟨⟨⟨⟨h1,h2⟩,h3⟩,h4⟩,h5⟩,h6⟩,h7⟩:=h
 refine⟨h1,fun y hy=>by simpa using h2 y hy,fun y hy e=>?_,fun y hy e=>?_,fun x hx=>?_,h6,fun j hj=>?_⟩
 ·have:=h3 y hy
  simpa [e] using this
 ·have:=h4 y hy
  simp only[e,bne_self_eq_false,Bool.false_or,Bool.or_eq_true,beq_iff_eq]at this
  exact this
 ·have:=h5 _ hx
  simpa using this
 ·obtain⟨a,b⟩:=h7 j hj
  refine⟨a,?_⟩
  obtain⟨y,hy,e⟩:=List.any_eq_true.mp b
  simp only[Bool.and_eq_true,beq_iff_eq]at e
  obtain⟨e1,e2⟩:=e
  rw[<- e1,<- e2]
  exact hy
theorem b0l {env:Env}:∀ {names:List (Str×NameKind)} {x:Str} {k:NameKind},
  (names.map fun(n,k)=>if(k==NameKind.free&&env.scope.kind == .function&&env.kindOf n==some .cell)then(n,NameKind.cell)else(n,k)).lookup x=some k->names.lookup x=some k∨(k = .cell/\names.lookup x=some .free)
 | [],_,_,h=>by simp at h
 | (n,q)::r,x,k,h=>by
  have ih:=@b0l env r x k
  cases hx:x==n with
  | true =>
   by_cases hc:(q==NameKind.free&&env.scope.kind == .function&&env.kindOf n==some .cell)=true
   ·simp only[List.map_cons,if_pos hc,List.lookup_cons,hx]at h
    cases h
    simp only[Bool.and_eq_true,beq_iff_eq]at hc
    obtain⟨⟨hq,_⟩,_⟩:=hc
    subst hq
    exact .inr ⟨rfl,by rw[List.lookup_cons,hx]⟩
   ·simp only[List.map_cons,if_neg hc,List.lookup_cons,hx]at h
    cases h
    exact .inl (by rw[List.lookup_cons,hx])
  | false =>
   have h':(r.map fun(n,k)=>if(k==NameKind.free&&env.scope.kind == .function&&env.kindOf n==some .cell)then(n,NameKind.cell)else(n,k)).lookup x=some k:=by
    by_cases hc:(q==NameKind.free&&env.scope.kind == .function&&env.kindOf n==some .cell)=true
    ·simp only[List.map_cons,if_pos hc,List.lookup_cons,hx]at h
     exact h
    ·simp only[List.map_cons,if_neg hc,List.lookup_cons,hx]at h
     exact h
   rcases ih h' with z | ⟨z,z'⟩
   ·exact .inl (by rw[List.lookup_cons,hx];exact z)
   ·exact .inr ⟨z,by rw[List.lookup_cons,hx];exact z'⟩
theorem v0a {scope:Scope}{own:List Str}{js:List Nat}{pins:List (Addr×Obj)}{σ:St}{H:Hp}{s:Shared}{fp:List Addr}{C:Addr}{h1:Heap}{tk:Nat}(B:Blk X scope own js)(I:Inv X pins σ H s)
  (hfp:∀b∈fp,FpOk X pins H b) (hfo:∀b∈fp,∃o,s.heap.get? b=some o) (hC:s.heap.objs.size<=C) (hns:h1.Ns C fun _=>none) (hk:∀b o,s.heap.get? b=some o->h1.get? b=some o) :
  Inv (blk X scope (own++capN X.N js) s H C fp) [] (bst own.length σ js) H {s with heap:=h1,toks:=tk}:=by
 have kindC:∀x,(blk X scope (own++capN X.N js) s H C fp).env.kindOf x=some .cell∨(blk X scope (own++capN X.N js) s H C fp).env.kindOf x=some .free->(x,NameKind.free)∈scope.names:=fun x hx=>by
  have hx':(relabel scope X.env).names.lookup x=some .cell∨(relabel scope X.env).names.lookup x=some .free:=hx
  rcases hx' with z | z
  ·rcases b0l z with q | ⟨_,q⟩
   ·exact absurd rfl (B.nocell _ (PySem.mem_of_lookup q))
   ·exact PySem.mem_of_lookup q
  ·rcases b0l z with q | ⟨_,q⟩
   ·exact PySem.mem_of_lookup q
   ·exact PySem.mem_of_lookup q
 have has:∀x,(x,NameKind.free)∈scope.names->∃c,X.env.cells.lookup x=some c:=fun x hx=>I.ok.has x (B.free (x,.free) hx rfl)
 have old:∀ {x c},(d0c scope X.env).lookup x=some c->X.env.cells.lookup x=some c:=fun e=>c0v e
 have cellLt:∀ {x c},X.env.cells.lookup x=some c->c<s.heap.objs.size:=fun{x c} e=>by
  obtain⟨v,o,ho,_⟩:=I.cell x c e
  exact Heap.lt_size ho
 have fpLt:∀b∈fp,b<s.heap.objs.size:=fun b hb=>let ⟨_,e⟩:=hfo b hb;Heap.lt_size e
 have fsOk:∀b∈frs X.stack,b∈X.env.locals::X.fs:=I.stkSub
 refine⟨⟨I.ok.mod,?_,I.ok.glob,I.ok.blt,hC,fun x y c e1 e2=>I.ok.inj x y c (old e1) (old e2),fun x hx=>?_,fun x c z _=>absurd z Bool.false_ne_true,I.ok.hd,I.ok.frames,.inl rfl,fun b hb=>⟨?_,fun x c e=>?_⟩,I.bs,Nat.le_trans I.ok.bsz I.sz,
   fun b o e hb=>?_,fun b hb hf=>?_,I.stack,I.stkFree⟩,rfl,I.bare,Un.kept hk,⟨_,hns,fun i x v e1 e2 e3=>?_⟩,fun x c e=>?_,?_,fun x c e=>I.freeC x c (old e),fun p hp=>absurd hp (by show p∉[]++[];simp),I.hok.kept hk,?_⟩
 ·show(relabel scope X.env).kind = .function
  exact B.kind
 ·obtain⟨c,e⟩:=has x (kindC x hx)
  exact⟨c,h0e (kindC x hx) e⟩
 ·exact Nat.ne_of_lt (Nat.lt_of_lt_of_le (fpLt b hb) hC)
 ·exact(hfp b hb).2.2.2.2.1 x c (old e)
 ·have e1:=I.bs b o e
  obtain⟨f0,f1,f2,f3,f4,f5⟩:=hfp b hb
  rcases f3 with z | z
  ·exact I.ok.noex b o e z
  ·exact absurd (Nat.lt_of_lt_of_le (Heap.lt_size (I.ok.bs b o e).1) z) (Nat.lt_irrefl _)
 ·obtain⟨f0,f1,f2,f3,f4,f5⟩:=hfp b hb
  rcases List.mem_cons.mp (fsOk b hf)with z | z
  ·exact f1 z
  ·exact f2 z
 ·-- a captured name's value
  have hi:own.length<=i:=by
   rcases Nat.lt_or_ge i own.length with z | z
   ·exfalso
    have e2':(List.replicate own.length (none:Option V)++capt σ js)[i]? = some (some v):=e2
    rw[List.getElem?_append_left (by simpa using z),List.getElem?_replicate]at e2'
    split at e2' <;> cases e2'
   ·exact z
  have e1':(own++capN X.N js)[i]? = some x:=e1
  have e2':(List.replicate own.length (none:Option V)++capt σ js)[i]? = some (some v):=e2
  rw[List.getElem?_append_right hi]at e1'
  rw[List.getElem?_append_right (by simpa using hi),List.length_replicate]at e2'
  unfold capN at e1'
  unfold capt at e2'
  rw[List.getElem?_map]at e1' e2'
  cases ej:js[i - own.length]? with
  | none=>rw[ej]at e1';cases e1'
  | some j =>
   rw[ej]at e1' e2'
   have e1'':(X.N[j]?).getD "" = x:=Option.some.inj e1'
   have e2'':(σ[j]?).getD none=some v:=Option.some.inj e2'
   obtain⟨hj,hm⟩:=B.cap j (List.mem_of_getElem? ej)
   have eN:X.N[j]? = some x:=by
    rw[List.getElem?_eq_getElem hj]at e1'' ⊢
    exact congrArg some e1''
   have eS:σ[j]? = some (some v):=by
    cases q:σ[j]? with
    | none=>rw[q]at e2'';cases e2''
    | some u=>rw[q]at e2'';exact congrArg some e2''
   rw[e1'']at hm
   obtain⟨m,_,hl⟩:=I.loc
   have hv:Vis X.env.scope x:=by
    rcases B.free (x,.free) hm rfl with z | z
    ·exact .inr (.inl z)
    ·exact .inr (.inr z)
   obtain⟨u,r,l⟩:=hl j x v eN eS hv
   obtain⟨c,hc⟩:=has x hm
   refine⟨u,r,.inr ⟨?_,c,h0e hm hc,?_⟩⟩
   ·rcases e3 with z | z | z
    ·exfalso
     have z':(relabel scope X.env).names.lookup x=some .local:=z
     rcases b0l z' with q | ⟨q,_⟩
     ·rw[B.uniq x hm]at q
      cases q
     ·cases q
    ·exact .inl z
    ·exact .inr z
   ·rcases l with⟨k1,_⟩ | ⟨k2,c2,e2,ic⟩
    ·rcases B.free (x,.free) hm rfl with t | t <;> (rw[k1]at t;cases t)
    ·rw[hc]at e2;cases e2
     obtain⟨o,ho,hd⟩:=ic
     exact⟨o,hk c o ho,hd⟩
 ·obtain⟨v,o,ho,hd⟩:=I.cell x c (old e)
  exact⟨v,o,hk c o ho,hd⟩
 ·exact I.hok.fresh hC
 ·rw[g0b]
  show _=(own++capN X.N js).length
  unfold capN
  simp
end
section
variable {X:Cx}
theorem Inv.young {pins:List (Addr×Obj)}{σ:St}{H:Hp}{s:Shared}{h':Heap}{c:Addr}(I:Inv X pins σ H s)(hs:Heap.SameBut c s.heap h')(hn:H c=none)(h1:X.s₀.heap.objs.size<=c)(hL:c≠X.env.locals)
  (h2:∀x d,X.env.cells.lookup x=some d->d≠c) (h3:∀p∈X.pn++pins,p.1≠c):Inv X pins σ H {s with heap:=h'} :=
 I.turned (t':=s.toks) (fun b o hb e=>(hs.2 b hb).trans e) hn hL (.inr h1) h2 h3
theorem Inv.track {pins:List (Addr×Obj)}{σ:St}{H:Hp}{s:Shared}{D:Addr}{ys:List V}{its:List Value}{n:Nat}(I:Inv X pins σ H s)(hn:H D=none)(h1:X.s₀.heap.objs.size<=D)(hL:D≠X.env.locals)
  (h2:∀x d,X.env.cells.lookup x=some d->d≠D) (h3:∀p∈X.pn++pins,p.1≠D) (hz:ys.length<=sizeLine) (r:Vals ys its) (e:s.heap.get? D=some {cls:=.type "list",data:=.seq its.toArray n}) :
  Inv X pins σ (upd H D (.lst ys)) s:=by
 have ne:∀ {b u},H b=some u->b≠D:=fun{b u} q=>a0t q hn
 refine⟨I.ok,I.os,I.bare,⟨I.base.keep,I.base.slot,fun b o q z hx=>?_,I.base.there,fun b xs q=>?_,fun b o u q=>?_,fun b ps q=>?_⟩,I.loc,I.cell,?_,fun x c q=>?_,fun p hp=>?_,fun b o q=>?_,I.len⟩
 ·rw[a0o (Nat.ne_of_lt (Nat.lt_of_lt_of_le (Heap.lt_size q) h1))]
  exact I.base.free b o q z hx
 ·have q':=I.base.tups b xs q
  rw[a0o (ne q')];exact q'
 ·have q':=I.base.frzs b o u q
  rw[a0o (ne q')];exact q'
 ·obtain⟨more,q'⟩:=I.base.tbls b ps q
  exact⟨more,by rw[a0o (ne q')];exact q'⟩
 ·rw[a0o (Ne.symm hL)];exact I.free
 ·rw[a0o (h2 x c q)];exact I.freeC x c q
 ·obtain⟨a1,a2,a3⟩:=I.pin p hp
  exact⟨a1,by rw[a0o (h3 p hp)];exact a2,a3⟩
 ·by_cases hb:b=D
  ·subst hb
   rw[b0i]at q
   cases q
   exact⟨hz,its,n,r,e⟩
  ·rw[a0o hb]at q
   refine(I.hok b o q).stay (fun _ _ _ z=>z) (fun c z=>?_) fun c xs z=>?_
   ·rw[a0o (ne z)];exact z
   ·rw[a0o (ne z)];exact z
def v0k (X:Cx)(pins:List (Addr×Obj))(σ:St)(Q:VK)(C:Addr)(acc:Value)(s':Shared):Prop :=
 ∃(D:Addr) (H:Hp) (m:Str->Option Value),acc = .ref D/\s'.heap.Ns C m/\Inv X pins σ H s'/\H C=none/\X.s₀.heap.objs.size<=C/\C≠X.env.locals/\(∀x d,X.env.cells.lookup x=some d->d≠C)/\(∀p∈X.pn++pins,p.1≠C)/\Q (.ref D) H
theorem k0k {elt tg iter:Expr}{ifs:List Expr}{scope:Scope}{pos:Pos}{own:List Str}{js:List Nat}{g:TG}{tc:TT}{te:TE}{Q:VK}{pins:List (Addr×Obj)}{σ:St}{s2:Shared}{itv:Value}{E:Value->Shared->Prop}
  {RR:Value->Addr->Result->Shared->Prop} (hc:X.calm=true) (B:Blk X scope own js) (hg:∀s H C fp,(own++capN X.N js).Nodup->PG (blk X scope (own++capN X.N js) s H C fp) tg g) (ht:∀s H C fp,PTs (blk X scope (own++capN X.N js) s H C fp) ifs tc)
  (he:∀s H C fp,PE (blk X scope (own++capN X.N js) s H C fp) elt te)
  (h:PIE X pins σ tg (fun J H1=>a1j J own.length js g tc te Q σ H1) itv s2)
  (hR:∀C acc s',v0k X pins σ Q C acc s'->RR acc C (.ok .next) s') :
  wpAny (model X.prog X.w) X.A (newList []) (fun acc s3=>wpAny (model X.prog X.w) X.A (newFunctionEnv scope X.env.globals (d0c scope X.env) [] X.env.qual none .none (some X.env)) (fun cenv s4 =>
   codeAny (model X.prog X.w) X.A (.compStart (.ListComp elt [⟨tg,iter,ifs,0⟩] scope pos) 0 itv acc {cenv with scope:=relabel scope X.env}) (RR acc cenv.locals) s4) E s3) E s2:=by
 obtain⟨it,fp,tn,J,H2,rfl,I2,T,st2,f2,W,⟨m0,w0⟩,turn⟩:=h
 refine wpAny_newObj_type (wpAny_newFunctionEnv B.nocell (by intro y hy;simp at hy) (fun h1 hns1 hsb1=>?_) B.kind)
 generalize hPu:s2.heap.push {cls:=.type "list",dict:=none,data:=.seq ([]:List Value).toArray}=Pu at hns1 hsb1 ⊢
 dsimp only at hns1 hsb1 ⊢
 have hDC:Pu.objs.size=s2.heap.objs.size+1:=by rw[<- hPu,Heap.size_push]
 generalize hD:s2.heap.objs.size=D at hDC ⊢
 have gD:Pu.get? D=some {cls:=.type "list",dict:=none,data:=.seq ([]:List Value).toArray}:=by
  rw[<- hPu,<- hD];exact Heap.get?_push_size _ rfl
 generalize hC:Pu.objs.size=C at hns1 hsb1 hDC ⊢
 have ltDC:D<C:=by rw[hDC];exact Nat.lt_succ_self D
 have neDC:D≠C:=Nat.ne_of_lt ltDC
 have keep1:∀b o,s2.heap.get? b=some o->h1.get? b=some o:=fun b o e=>by
  have hb:b<D:=by rw[<- hD];exact Heap.lt_size e
  have hb2:b≠C:=Nat.ne_of_lt (Nat.lt_trans hb ltDC)
  refine(hsb1.2 b hb2).trans (Heap.get?_push_of_some _ ?_)
  rw[<- hPu]
  exact Heap.get?_push_of_some _ e
 have gD1:h1.get? D=some {cls:=.type "list",dict:=none,data:=.seq ([]:List Value).toArray}:=(hsb1.2 D neDC).trans (Heap.get?_push_of_some _ gD)
 have szD:s2.heap.objs.size<=D:=Nat.le_of_eq hD
 have szC:s2.heap.objs.size<=C:=Nat.le_trans szD (Nat.le_of_lt ltDC)
 have old:∀ {b:Addr},b<s2.heap.objs.size->b≠D/\b≠C:=fun hb=>⟨Nat.ne_of_lt (Nat.lt_of_lt_of_le hb szD),Nat.ne_of_lt (Nat.lt_of_lt_of_le hb szC)⟩
 have fpo:∀b∈fp,∃o,s2.heap.get? b=some o:=fun b hb=>let ⟨o,e,_⟩:=T.obj 0 _ st2 b hb;⟨o,e⟩
 have fpD:∀b∈fp,b≠D/\b≠C:=fun b hb=>by
  obtain⟨o,e⟩:=fpo b hb
  exact old (Heap.lt_size e)
 have clD:∀x d,X.env.cells.lookup x=some d->d≠D/\d≠C:=fun x d e=>by
  obtain⟨v,o,ho,_⟩:=I2.cell x d e
  exact old (Heap.lt_size ho)
 have pinD:∀p∈X.pn++pins,p.1≠D/\p.1≠C:=fun p hp=>by
  exact old (Heap.lt_size (I2.pin p hp).1)
 have locD:D≠X.env.locals/\C≠X.env.locals:=by
  exact⟨(old I2.lt).1.symm,(old I2.lt).2.symm⟩
 let Y:=blk X scope (own++capN X.N js) s2 H2 C fp
 have IB:Inv Y [] (bst own.length σ js) H2 {s2 with heap:=h1,toks:=s2.toks+([]:List (Str×Value)).length}:=v0a B I2 f2 fpo szC hns1 keep1
 have fpB:∀ {H':Hp} {pl:List (Addr×Obj)},(∀b∈fp,H' b=none)->(∀p∈pl,p.1=D)->∀b∈fp,FpOk Y pl H' b:=fun{H' pl} hn hp b hb=>by
  obtain⟨f0,f1,f3,f4,f5,f6⟩:=f2 b hb
  refine⟨hn b hb,(fpD b hb).2,fun z=>?_,.inl hb,fun x c e=>f5 x c (c0v e),fun p q=>?_⟩
  ·rcases List.mem_cons.mp (I2.stkSub b z)with z | z
   ·exact f1 z
   ·exact f3 z
  ·have q':p∈pl:=by simpa [Y,blk] using q
   rw[hp p q']
   exact(fpD b hb).1.symm
 have clB:∀x d,Y.env.cells.lookup x=some d->d≠D:=fun x d e=>(clD x d (c0v e)).1
 have notFs:D∉Y.fs:=fun z=>by
  obtain⟨_,o,ho,_⟩:=IB.ok.funs.mem z
  exact(old (Heap.lt_size (show s2.heap.get? D=some o from ho))).1 rfl
 have loop:∀s3:Shared,s3={s2 with heap:=h1,toks:=s2.toks+([]:List (Str×Value)).length} ->
   codeAny (model X.prog X.w) X.A (.compLoop (.ListComp elt [⟨tg,iter,ifs,0⟩] scope pos) 0 (.ref it) (.ref D) (compEnvC scope (d0c scope X.env) C X.env)) (RR (.ref D) C) s3:=by
  rintro s3 rfl
  refine j0b (fun n s'=>∃(i:Nat) (ys:List V) (its:List Value) (k:Nat) (H':Hp),Inv Y [] (bst own.length σ js) H' s'/\tn i s'.heap/\(∀b∈fp,H' b=none)/\H' D=none/\Vals ys its /\
   s'.heap.get? D=some {cls:=.type "list",data:=.seq its.toArray k}/\W i n ys H') ?_ m0 ⟨0,[],[],0,H2,IB,T.keep 0 _ _ st2 (fun b hb o e=>keep1 b o e),fun b hb=>(f2 b hb).1,I2.hok.fresh szD,.nil,gD1,w0⟩
  rintro n s3 ⟨i,ys,its,k,H3,I3,st3,fr3,hD3,r3,g3,w3⟩
  have I3p:Inv Y [(D,{cls:=.type "list",data:=.seq its.toArray k})] (bst own.length σ js) H3 s3:=I3.pins_of fun p hp=>by
   have e:p=(D,{cls:=.type "list",data:=.seq its.toArray k}):=by simpa using hp
   subst e
   exact⟨g3,hD3,neDC,notFs,fun v z=>by cases z⟩
  have f3:∀b∈fp,FpOk Y [(D,{cls:=.type "list",data:=.seq its.toArray k})] H3 b:=fpB fr3 fun p hp=>by
   have e:p=(D,{cls:=.type "list",data:=.seq its.toArray k}):=by simpa using hp
   rw[e]
  rcases turn i n ys H3 w3 with⟨stop,hz,qn⟩ | ⟨go,hz,N,hN,step⟩
  ·refine thn (T.done Y rfl rfl rfl hc i _ s3 _ H3 (fun _ _=>False) I3p f3 st3 stop) fun r s4 ⟨hr,I4⟩=>?_
   subst hr
   refine hR C _ s4 ?_
   have g4:=(I4.pin (D,{cls:=.type "list",data:=.seq its.toArray k}) (by simp[Y,blk])).1
   obtain⟨m,hn4,_⟩:=id I4.loc
   have un:Un (frs X.stack) fp H2 H3 s2.heap s4.heap:=I4.base
   have I5:Inv X pins σ H3 s4:=I2.call' I4.os un I4.hok I4.bare fun b hb=>let ⟨_,b1,_,b3,b4,b5⟩:=f2 b hb;⟨b3,b1,b4,b5⟩
   have I6:=I5.track (ys:=ys) (its:=its) (n:=k) hD3 (Nat.le_trans I2.sz szD) locD.1 (fun x d e=>(clD x d e).1) (fun p hp=>(pinD p hp).1) hz r3 g4
   refine⟨D,_,m,rfl,hn4,I6,?_,Nat.le_trans I2.sz szC,locD.2,fun x d e=>(clD x d e).2,fun p hp=>(pinD p hp).2,qn D hD3⟩
   rw[a0o (Ne.symm neDC)]
   exact I4.free
  ·refine thn (T.item Y rfl rfl rfl hc i _ s3 _ H3 (fun _ _=>False) I3p f3 st3 go) fun r s4 ⟨u,hr,h4⟩=>?_
   subst hr
   refine thn h4 fun _ s5 ⟨x,H5,I5,r5,y5,st5,fr5⟩=>?_
   have f5:∀b∈fp,FpOk Y [(D,{cls:=.type "list",data:=.seq its.toArray k})] H5 b:=fun b hb=>⟨fr5 b hb,(f3 b hb).2⟩
   have I5':=I5.pinned f5 (T.obj _ _ st5)
   refine thn (hg s2 H2 C fp B.nd _ s5 _ H5 x u _ I5' r5 (step x H5 y5)) fun _ s6 ⟨σ6,H6,I6,d6,q6⟩=>?_
   refine thn (ht s2 H2 C fp _ s6 σ6 H6 _ I6 q6) fun ok s7 ⟨H7,I7,q7⟩=>?_
   have after:∀ {s8:Shared} {H8:Hp},Inv Y ([(D,{cls:=.type "list",data:=.seq its.toArray k})]++e0z fp s5.heap) σ6 H8 s8 ->
     s8.heap.get? D=some {cls:=.type "list",data:=.seq its.toArray k}/\H8 D=none/\tn (i+1) s8.heap/\(∀b∈fp,H8 b=none)/\Inv Y [] (bst own.length σ js) H8 s8:=fun{s8 H8} I8=>by
    have p8:=I8.pin (D,{cls:=.type "list",data:=.seq its.toArray k}) (by simp[Y,blk])
    refine⟨p8.1,p8.2.1,T.keep _ _ _ st5 fun b hb o e=>(I8.pin (b,o) (List.mem_append_right _ (List.mem_append_right _ (b0s hb e)))).1,fun b hb=>?_,?_⟩
    ·obtain⟨o,e,_⟩:=T.obj _ _ st5 b hb
     exact(I8.pin (b,o) (List.mem_append_right _ (List.mem_append_right _ (b0s hb e)))).2.1
    ·refine(I8.pins_of (pins':=[]) fun p hp=>absurd hp (by simp[Y,blk])).weak ?_ fun j v e=>?_
     ·rw[I8.len,g0b]
      show _=(own++capN X.N js).length
      unfold capN
      simp
     ·rcases Nat.lt_or_ge j own.length with z | z
      ·exfalso
       unfold bst at e
       rw[List.getElem?_append_left (by simpa using z),List.getElem?_replicate]at e
       split at e <;> cases e
      ·unfold bst at e
       rw[List.getElem?_append_right (by simpa using z),List.length_replicate,<- d6,List.getElem?_drop]at e
       rw[<- e]
       congr 1
       omega
   cases ok with
   | false =>
    rw[if_neg Bool.false_ne_true]at q7 ⊢
    obtain⟨m',hm,w7⟩:=hN _ _ q7
    obtain⟨a1,a2,a3,a4,a5⟩:=after I7
    exact⟨m',hm,i+1,ys,its,k,H7,a5,a3,a4,a2,r3,a1,w7⟩
   | true =>
    rw[if_pos rfl]at q7 ⊢
    refine thn (he s2 H2 C fp _ s7 σ6 H7 _ I7 q7) fun u8 s8 ⟨v8,H8,I8,r8,n8⟩=>?_
    obtain⟨m',hm,w8⟩:=hN _ _ n8
    obtain⟨a1,a2,a3,a4,a5⟩:=after I8
    have hsz:its.toArray.size<sizeLine:=by rw[List.size_toArray,<- r3.length];exact hz
    refine call_meets F.slot_list_append ⟨_,a1,rfl⟩ F.entry_list_append (F.args_list_append_2 _ _) (PySem.list_append D its.toArray k u8 (by omega)) ⟨a1,?_⟩
    have q9:=PySem.IsL.update a1 (fun xs=>xs.push u8)
    have sb:Heap.SameBut D s8.heap (s8.heap.update D (Obj.mapSeq fun xs=>xs.push u8)):=Heap.SameBut.update ..
    have I9:=a5.young sb a2 szD neDC clB (fun p hp=>absurd hp (by show p∉[]++[];simp))
    have fin:∃k',(s8.heap.update D (Obj.mapSeq fun xs=>xs.push u8)).get? D=some {cls:=.type "list",data:=.seq (its++[u8]).toArray k'}:=⟨_,by
     rw[show(its++[u8]).toArray=its.toArray.push u8 by simp]
     exact q9⟩
    obtain⟨k',fin⟩:=fin
    exact⟨m',hm,i+1,ys++[v8],its++[u8],k',H8,I9,T.keep _ _ _ a3 (fun b hb o e=>(sb.2 b (fpD b hb).1).trans e),a4,a2,r3.append (.cons r8 .nil),fin,w8⟩
 exact codeAny_compStart_list (loop _ rfl) (T.self _ 0 _ _ _ (T.keep 0 _ _ st2 fun b hb o e=>keep1 b o e) (loop _ rfl))
theorem e0h {elt tg iter:Expr}{ifs:List Expr}{scope:Scope}{pos:Pos}(own:List Str)(js:List Nat){wi:TI}{g:TG}{tc:TT}{te:TE}(hc:X.calm=true)(B:Blk X scope own js)(hi:PI X tg iter wi)
  (hg:∀s H C fp,(own++capN X.N js).Nodup->PG (blk X scope (own++capN X.N js) s H C fp) tg g) (ht:∀s H C fp,PTs (blk X scope (own++capN X.N js) s H C fp) ifs tc) (he:∀s H C fp,PE (blk X scope (own++capN X.N js) s H C fp) elt te)
  (hs:∀x,foldedSetIterable iter X.env x=pure x:=by intro _;rfl):PE X (.ListComp elt [⟨tg,iter,ifs,0⟩] scope pos) (r0g own.length js wi g tc te):=by
 intro pins s σ H Q I h
 have hcl:closureFor scope X.env=pure (d0c scope X.env):=d0i fun x hx hf=>I.ok.has x.1 (B.free x hx hf)
 rw[eval_ListComp]
 refine wpAny_comprehension_free (use:=none) rfl hs hcl B.kind B.names (thn (hi pins s σ H _ I h) fun v s1 h1=>thn h1 fun itv s2 h2=>?_)
 refine k0k (RR:=fun acc C=>compPost (model X.prog X.w) X.A X.xe none (EP X pins σ Q) acc C) hc B hg ht he h2 fun C acc s' hb=>?_
 obtain⟨D,H',m,rfl,hn,I',c1,c2,c3,c4,c5,q⟩:=hb
 exact⟨m,hn,fun h' hs'=>⟨.ref D,H',I'.young hs' c1 c2 c3 c4 c5,rfl,q⟩⟩
theorem o0m {elt tg iter:Expr}{ifs:List Expr}{scope:Scope}{pos pos' spos:Pos}{i:Nat}{x:Str}(own:List Str)(js:List Nat){wi:TI}{g:TG}{tc:TT}{te:TE}(hN:X.N.Nodup)(hi:X.N[i]? = some x)(hx:Loc X.env.scope x)
  (hc:X.calm=true) (B:Blk X scope own js) (hit:PI X tg iter wi)
  (hg:∀s H C fp,(own++capN X.N js).Nodup->PG (blk X scope (own++capN X.N js) s H C fp) tg g) (ht:∀s H C fp,PTs (blk X scope (own++capN X.N js) s H C fp) ifs tc) (he:∀s H C fp,PE (blk X scope (own++capN X.N js) s H C fp) elt te)
  (hf:X.fn x=true∨X.env.scope.names.lookup x=some .local:=by first | exact .inl rfl | exact .inr rfl | assumption)
  (hw:swapsWith (.ListComp elt [⟨tg,iter,ifs,0⟩] scope pos) (some (.Name x pos')) spos.line X.env=pure true:=by rfl)
  (hs:∀x,foldedSetIterable iter X.env x=pure x:=by intro _;rfl) :
  PS X (.Assign [.Name x pos'] (.ListComp elt [⟨tg,iter,ifs,0⟩] scope pos) spos) (fun D σ H=>r0g own.length js wi g tc te σ H fun v H'=>D.nx (σ.set i (some v)) H'):=by
 intro pins s σ H D I h
 have hcl:closureFor scope X.env=pure (d0c scope X.env):=d0i fun x hx hf=>I.ok.has x.1 (B.free x hx hf)
 rw[exec_Assign_Name_used _ _ _ _ hw]
 refine wpAny_bind (wpAny_standAt (wpAny_bind ?_))
 show wpAny _ X.A (do let _ <- comprehension (.ListComp elt [⟨tg,iter,ifs,0⟩] scope pos) scope X.env _ (newList []) false (eval iter X.env) (some (assign (.Name x pos') X.env))) _ _ s
 refine wpAny_bind (thn (Q:=fun _ s'=>SP X pins D .next s') (wpAny_comprehension_free (use:=some (assign (.Name x pos') X.env)) rfl hs hcl B.kind B.names (thn (hit pins s σ H _ I h) fun v s1 h1=>thn h1 fun itv s2 h2=>?_)) fun _ s' q=>wpAny_pure (wpAny_pure q))
 refine k0k (Q:=fun v H'=>D.nx (σ.set i (some v)) H') (RR:=fun acc C=>compPost (model X.prog X.w) X.A X.xe (some (assign (.Name x pos') X.env)) (fun _ s'=>SP X pins D .next s') acc C) hc B hg ht he h2 fun C acc s' hb=>?_
 obtain⟨l,H',m,rfl,hn,I',c1,c2,c3,c4,c5,q⟩:=hb
 show wpAny _ X.A (assign (.Name x pos') X.env (.ref l)) _ _ _
 refine wpAny_assign_Name (m0j (v:=.ref l) I' hN hi hx rfl (fun s3 I3 ⟨a,sb,ha⟩=>?_) hf)
 have ne:C≠a:=by
  rcases ha with z | z
  ·rw[z];exact c3
  ·exact(c4 x a z).symm
 exact⟨m,hn.sameBut sb ne,fun h' hs'=>⟨_,H',I3.young hs' c1 c2 c3 c4 c5,q⟩⟩
end
section
variable {X:Cx}
def Dv (j:Int):Prop:=0<j/\j.natAbs.log2<9000
theorem Dv.small {j:Int}(h:0<j)(h2:j<1073741824):Dv j:=⟨h,by
 have e:j.natAbs≠0:=by omega
 have:j.natAbs.log2<30:=(Nat.log2_lt e).mpr (by omega)
 omega⟩
theorem l0h:OpR X (binaryOp .FloorDiv) (rI (fun _ j=>Dv j) fun i j=>.int (i / j)):=opI fun i j _ _ _ _ _ hc q=>by
 rw[<- Int.fdiv_eq_ediv_of_nonneg i (Int.le_of_lt hc.1)]at q
 exact floordiv_int (Int.ne_of_gt hc.1) q (.inl (PyProof.noPylong_of_log2 hc.2))
theorem z0e:MtR X "int.bit_length" (fun x xs H Q=>∃i,x = .int i/\xs=[]/\Q (.int (Builtin.Int.intBits i:Nat)) H):=by
 intro pins s σ H x xs v us Q I rx rv h
 obtain⟨i,rfl,rfl,q⟩:=h
 obtain⟨t,rfl⟩:=rx
 cases rv
 exact call_int_bit_length ⟨.int (Builtin.Int.intBits i:Nat),H,I.tok _,⟨_,rfl⟩,q⟩
def isaT (t T:String):Option Bool:=if(Value.type t==Value.type T)=true then some true else if PySem.W.kitMeta T=true then(fastBuiltinMro t).map (·.contains (.type T))else none
theorem n0i:isaT "int" "int" = some true:=by decide +kernel
theorem l0n:isaT "int" "bool" = some false:=by decide +kernel
theorem l0o:isaT "bool" "int" = some true:=by decide +kernel
theorem j0q:isaT "bool" "bool" = some true:=by decide +kernel
theorem n0g:isaT "str" "int" = some false:=by decide +kernel
theorem n0h:isaT "NoneType" "int" = some false:=by decide +kernel
theorem l0m:isaT "list" "int" = some false:=by decide +kernel
theorem j0p:isaT "tuple" "int" = some false:=by decide +kernel
theorem h0p:isaT "tuple" "tuple" = some true:=by decide +kernel
theorem w0j {K:PySem.W.Frag}{t T:String}:PySem.W.kitOne K (.type t) (.type T)=isaT t T:=rfl
theorem y0t {x:Str}{T:String}{pos:Pos}(hg:Gl X x)(hm:X.mg x=none)(hv:bootBuiltins x=some (.type T))(hn:x ≠ "__name__" := by decide)(hd:(x==("__debug__" : Str))=false:=by decide):PE X (.Name x pos) (tC (.ty T)) :=
 y0w hg hm hv rfl hn hd
structure OkN (P:Program)(w:World)(K:PySem.W.Frag)(mg:Str->Option Value)(base:Heap)(k:Nat)(x:Str)(ps:List Str)(sp:Sp):Prop where
 ex:∃f fd,mg x=some (.ref f)/\PySem.W.keepIn K (.ref f)=true/\v0j K fd ps []/\(∃oc od osl,K.lookup f=some ⟨oc,od,.func fd,osl⟩)/\FnOk P w K mg base CX0 k f fd ps sp
theorem b0z {k:Nat}{x:Str}{ps:List Str}{sp:Sp}{p pos:Pos}{e:Expr}{es:List Expr}{t:TA}(F:OkN X.prog X.w X.K X.mg X.base k x ps sp)(hr:Room k X.A)(ha:PA X (e::es) t)(hg:Gl X x:=by rfl)
  (hdb:(x==("__debug__" : Str))=false:=by decide) (he:starEach (e::es) X.env=(false,eval e X.env)::starEach es X.env:=by rfl) (hpl:(backTo pos (starEach es X.env)).any (·.1)=false:=by rfl) :
  PE X (.Call (.Name x p) (e::es) [] pos) (r0h sp [] E0 t):=by
 obtain⟨f,fd,hm,hk,hb,lk,F⟩:=F.ex
 exact y0v F hr hg hm hk hb .nil d1s ha hdb he hpl
structure DefN (K:PySem.W.Frag)(mg:Str->Option Value)(x:Str)(st:Stmt)(ps:List Str):Prop where
 ex:∃f fd,mg x=some (.ref f)/\Fun K x x st f fd/\∀us:List Value,us.length=ps.length->bindArgs fd ⟨us,[]⟩=pure (ps.zip us)
theorem DefN.ok {P:Program}{w:World}{K:PySem.W.Frag}{mg:Str->Option Value}{base:Heap}{x:Str}{st:Stmt}{N ps:List Str}{k:Nat}{sp:Sp}(D:DefN K mg x st ps)(S:b0f N ps (a0i st))(len:∀vs H Q E,sp vs H Q E->vs.length=ps.length)
  (hbody:∀(f:Addr) (cdv:Value) (A:Around) (outer:List Env) (s:Shared) (H:Hp) (vs:List V) (Q:VK) (E:XK),Room k (A.deeper (envOfC x (a0i st) s.heap.objs.size f cdv))->sp vs H Q E ->
   ∃t,PSs (cxOf CX0 P w K mg base N x (a0i st) f cdv A outer s H E).nox (e0m st) t/\t {nx:=fun _ H'=>Q .non H',rt:=Q} (start N vs) H):OkN P w K mg base (k+1) x ps sp:=by
 obtain⟨f,fd,hm,F,hb⟩:=D.ex
 refine⟨f,fd,hm,F.kp,.all hb,?_,F.ok S len fun cdv A outer s H vs Q E hr h=>hbody f cdv A outer s H vs Q E hr h⟩
 obtain⟨oc,od,kV,doc,pm,an,cdv,ct,osl,_,lk,_⟩:=F.ex
 exact⟨oc,od,osl,lk⟩
theorem d0a {K:PySem.W.Frag}{mg:Str->Option Value}{h:Heap}{x:Str}{st:Stmt}{ps:List Str}{f:Addr}{oc:Value}{od an:Option Addr}{osl:Array (Option Value)}{kV doc pm cdv ct:Value}(KX:K.In h)(G:h.Ns mainGlobals mg)
  (a:PySem.W.nsIn K mainGlobals x=some (some (.ref f))) (l:K.lookup f=some ⟨oc,od,.func (PySem.W.fnOf x x (i0x st) (e0m st) (a0i st) .none kV doc pm an cdv ct),osl⟩)
  (c:PySem.W.codeIn K cdv x=true) (k:PySem.W.keepIn K (.ref f)=true)
  (hb:∀(kV doc pm:Value) (an:Option Addr) (cdv ct:Value) (us:List Value),us.length=ps.length->bindArgs (PySem.W.fnOf x x (i0x st) (e0m st) (a0i st) .none kV doc pm an cdv ct) ⟨us,[]⟩=pure (ps.zip us)):DefN K mg x st ps :=
 ⟨f,_,PySem.W.mg_of KX G a,d1c l c k,fun us hl=>hb kV doc pm an cdv ct us hl⟩
theorem z0i {P:Program}{w:World}{K:PySem.W.Frag}{mg:Str->Option Value}{x p:Str}{st:Stmt}{k:Nat}{fa:Addr}{sp:Sp}(D:DefN K mg x st [p])(hfa:mg x=some (.ref fa))
  (F:∀base:Heap,OkN P w K mg base k x [p] sp):∃fd:FuncData,(∀(s:Shared) (v:Value),BindsTo s fd ⟨[v],[]⟩ [(p,v)])/\∀base:Heap,K.In base->base.Ns mainGlobals mg->FnOk P w K mg base CX0 k fa fd [p] sp:=by
 obtain⟨f,fd,hm,F0,hb⟩:=D.ex
 obtain⟨oc,od,kV,doc,pm,an,cdv,ct,osl,_,lk,_⟩:=F0.ex
 refine⟨fd,fun s v=>.of_eq (hb [v] rfl),fun base _ _=>?_⟩
 obtain⟨f',fd',hm',_,_,⟨oc',od',osl',lk'⟩,G⟩:=(F base).ex
 rw[hfa]at hm'
 cases hm'
 rw[hfa]at hm
 cases hm
 rw[lk]at lk'
 cases lk'
 exact G
end
structure BI (mg:Str->Option Value):Prop where
 len_:mg "len" = none
 range_:mg "range" = none
 isinstance_:mg "isinstance" = none
 int_:mg "int" = none
 bool_:mg "bool" = none
 list_:mg "list" = none
 tuple_:mg "tuple" = none
 str_:mg "str" = none
 sum_:mg "sum" = none
 all_:mg "all" = none
 max_:mg "max" = none
 min_:mg "min" = none
 sorted_:mg "sorted" = none
 set_:mg "set" = none
 zip_:mg "zip" = none
 enumerate_:mg "enumerate" = none
 reversed_:mg "reversed" = none
 dict_:mg "dict" = none
 any_:mg "any" = none
 abs_:mg "abs" = none
theorem e1b {K:PySem.W.Frag}{mg:Str->Option Value}{h:Heap}(KX:K.In h)(G:h.Ns mainGlobals mg)
  (len_:PySem.W.nsIn K mainGlobals "len" = some none) (range_:PySem.W.nsIn K mainGlobals "range" = some none) (isinstance_:PySem.W.nsIn K mainGlobals "isinstance" = some none) (int_:PySem.W.nsIn K mainGlobals "int" = some none) (bool_:PySem.W.nsIn K mainGlobals "bool" = some none) (list_:PySem.W.nsIn K mainGlobals "list" = some none) (tuple_:PySem.W.nsIn K mainGlobals "tuple" = some none) (str_:PySem.W.nsIn K mainGlobals "str" = some none) (sum_:PySem.W.nsIn K mainGlobals "sum" = some none) (all_:PySem.W.nsIn K mainGlobals "all" = some none) (max_:PySem.W.nsIn K mainGlobals "max" = some none) (min_:PySem.W.nsIn K mainGlobals "min" = some none) (sorted_:PySem.W.nsIn K mainGlobals "sorted" = some none) (set_:PySem.W.nsIn K mainGlobals "set" = some none) (zip_:PySem.W.nsIn K mainGlobals "zip" = some none) (enumerate_:PySem.W.nsIn K mainGlobals "enumerate" = some none) (reversed_:PySem.W.nsIn K mainGlobals "reversed" = some none) (dict_:PySem.W.nsIn K mainGlobals "dict" = some none) (any_:PySem.W.nsIn K mainGlobals "any" = some none) (abs_:PySem.W.nsIn K mainGlobals "abs" = some none):BI mg :=
 ⟨PySem.W.mg_none_of KX G len_,PySem.W.mg_none_of KX G range_,PySem.W.mg_none_of KX G isinstance_,PySem.W.mg_none_of KX G int_,PySem.W.mg_none_of KX G bool_,PySem.W.mg_none_of KX G list_,PySem.W.mg_none_of KX G tuple_,PySem.W.mg_none_of KX G str_,PySem.W.mg_none_of KX G sum_,PySem.W.mg_none_of KX G all_,PySem.W.mg_none_of KX G max_,PySem.W.mg_none_of KX G min_,PySem.W.mg_none_of KX G sorted_,PySem.W.mg_none_of KX G set_,PySem.W.mg_none_of KX G zip_,PySem.W.mg_none_of KX G enumerate_,PySem.W.mg_none_of KX G reversed_,PySem.W.mg_none_of KX G dict_,PySem.W.mg_none_of KX G any_,PySem.W.mg_none_of KX G abs_⟩
def Grow (t:Addr)(H H':Hp):Prop:=∀b o,H b=some o->b≠t->H' b=some o
theorem Grow.refl {t:Addr}{H:Hp}:Grow t H H:=fun _ _ h _=>h
theorem Grow.upd {t:Addr}{H H':Hp}(g:Grow t H H')(o:HO):Grow t H (L2.upd H' t o):=fun b u h n=>by rw[a0o n];exact g b u h n
theorem Same.new {H H':Hp}{l:Addr}{o:HO}(s:Same H H')(h:H' l=none):Same H (L2.upd H' l o):=fun b u e=>by
 have:=s b u e
 rw[a0o (a0t this h)];exact this
theorem Same.seqT {K:PySem.W.Frag}{H H':Hp}{a:Addr}{xs:List V}(e:Same H H')(h:SqT K H a xs):SqT K H' a xs:=by
 rcases h with(h | ⟨o,h⟩) | h
 ·exact .inl (.inl (e _ _ h))
 ·exact .inl (.inr ⟨o,e _ _ h⟩)
 ·exact .inr h
theorem Grow.seq {K:PySem.W.Frag}{t:Addr}{H H':Hp}{a:Addr}{xs:List V}{kvs:List (Key×V)}(g:Grow t H H')(ht:H t=some (.dK kvs))(h:SqL K H a xs):SqL K H' a xs:=by
 rcases h with(h | ⟨o,h⟩) | h
 ·exact .inl (.inl (g _ _ h (z0c h ht (by intro z;cases z))))
 ·exact .inl (.inr ⟨o,g _ _ h (z0c h ht (by intro z;cases z))⟩)
 ·exact .inr h
def c0b (c:Addr)(sp lf:Int):List (Key×V):=[(Sum.inr "cells",.ref c),(Sum.inr "spot",.int sp),(Sum.inr "left",.int lf)]
theorem z0v:¬((Sum.inr ("cells" : Str):Key)=Sum.inr ("spot" : Str)):=by decide +kernel
theorem z0y:¬((Sum.inr ("cells" : Str):Key)=Sum.inr ("left" : Str)):=by decide +kernel
theorem v0t:¬((Sum.inr ("spot" : Str):Key)=Sum.inr ("left" : Str)):=by decide +kernel
theorem j0v {c:Addr}{sp lf:Int}:valV (c0b c sp lf) (Sum.inr "cells" : Key)=some (.ref c):=by
 simp[valV,c0b]
theorem s0j {c:Addr}{sp lf:Int}:valV (c0b c sp lf) (Sum.inr "spot" : Key)=some (.int sp):=by
 simp only[valV,c0b,List.find?_cons,decide_eq_false z0v,decide_true,Option.map_some]
theorem s0l {c:Addr}{sp lf:Int}:valV (c0b c sp lf) (Sum.inr "left" : Key)=some (.int lf):=by
 simp only[valV,c0b,List.find?_cons,decide_eq_false z0y,decide_eq_false v0t,decide_true,Option.map_some]
theorem l0d {c:Addr}{sp lf x:Int}:putK (c0b c sp lf) (Sum.inr "left" : Key) (.int x)=c0b c sp x:=by
 unfold putK
 rw[if_pos (by simp[c0b])]
 simp only[c0b,List.map_cons,List.map_nil,if_neg z0y,if_neg v0t,if_pos]
theorem v0x {c:Addr}{sp lf x:Int}:putK (c0b c sp lf) (Sum.inr "spot" : Key) (.int x)=c0b c x lf:=by
 unfold putK
 rw[if_pos (by simp[c0b])]
 simp only[c0b,List.map_cons,List.map_nil,if_neg z0v,if_pos,if_neg (show ¬((Sum.inr ("left" : Str):Key)=Sum.inr ("spot" : Str))from fun e=>v0t e.symm)]
theorem s0k {c:Addr}:i0p [] [((Sum.inr ("cells" : Str):Key),V.ref c),((Sum.inr ("spot" : Str):Key),V.int 0),((Sum.inr ("left" : Str):Key),V.int 0)]=c0b c 0 0:=by
 simp only[i0p,List.foldl_cons,List.foldl_nil]
 have e1:putK ([]:List (Key×V)) (Sum.inr ("cells" : Str)) (V.ref c)=[((Sum.inr ("cells" : Str):Key),V.ref c)]:=by simp[putK]
 have e2:putK [((Sum.inr ("cells" : Str):Key),V.ref c)] (Sum.inr ("spot" : Str)) (V.int 0)=[((Sum.inr ("cells" : Str):Key),V.ref c),((Sum.inr ("spot" : Str):Key),V.int 0)]:=by
  unfold putK
  rw[if_neg (by simp only[List.any_cons,List.any_nil,decide_eq_false z0v];simp)]
  rfl
 have e3:putK [((Sum.inr ("cells" : Str):Key),V.ref c),((Sum.inr ("spot" : Str):Key),V.int 0)] (Sum.inr ("left" : Str)) (V.int 0)=c0b c 0 0:=by
  unfold putK
  rw[if_neg (by simp only[List.any_cons,List.any_nil,decide_eq_false z0y,decide_eq_false v0t];simp)]
  rfl
 rw[e1,e2,e3]
theorem d1z {ns:List Int}:cutV (ns.map V.int) none (some 63)=(ns.take 63).map V.int:=by
 unfold cutV
 have e0:HT.sIx (ns.map V.int).length 0 none=0:=rfl
 rw[e0,List.drop_zero,Nat.sub_zero,List.map_take]
 show List.take (HT.sIx _ _ (some ((63:Nat):Int))) _=_
 rw[HT.sIx_nat]
 rcases Nat.le_total 63 (ns.map V.int).length with h | h
 ·rw[Nat.min_eq_left h]
 ·rw[Nat.min_eq_right h,List.take_of_length_le (Nat.le_refl _),List.take_of_length_le h]
end L2
namespace L2
theorem drawn {Q:Int->Hp->Prop}{m x:Int}{H':Hp}(hm:0<m)(k:∀r:Nat,(r:Int)<m->Q (r:Nat) H'):Q (x % m) H':=by
 obtain⟨r,e⟩:=Int.eq_ofNat_of_zero_le (Int.emod_nonneg x (Int.ne_of_gt hm))
 have:=Int.emod_lt_of_pos x hm
 rw[e]at this ⊢
 exact k r this
theorem p0y {y:Int}:-(2^64)<y % 2147483647/\y % 2147483647<2^64:=by omega
theorem dv64:Dv 64:=Dv.small (by decide) (by decide)
end L2
namespace L2
open PySem PySem.Spec PyProof.Rows
theorem m0c (a b:Nat):Builtin.bitAnd (a:Int) (b:Int)=((a &&& b:Nat):Int):=by
 unfold Builtin.bitAnd
 rw[decide_eq_true (Int.natCast_nonneg a),decide_eq_true (Int.natCast_nonneg b)]
 simp
theorem t0i (a b:Nat):Builtin.bitOr (a:Int) (b:Int)=((a ||| b:Nat):Int):=by
 unfold Builtin.bitOr Builtin.bitAnd Builtin.bitNot
 rw[decide_eq_false (show ¬(0:Int) <= -(a:Int) - 1 by omega),decide_eq_false (show ¬(0:Int) <= -(b:Int) - 1 by omega)]
 have h1:(-(-(a:Int) - 1) - 1).toNat=a:=by omega
 have h2:(-(-(b:Int) - 1) - 1).toNat=b:=by omega
 simp only[h1,h2]
 omega
theorem y0q (a k:Nat):(a:Int) / 2^((k:Int).toNat)=((a >>> k:Nat):Int):=by
 rw[Int.toNat_natCast,Nat.shiftRight_eq_div_pow]
 exact(Int.natCast_ediv a (2^k)).symm.trans (by norm_cast) |>.symm▸(by simp)
theorem v0b (a k:Nat):Builtin.bitAnd ((a:Int) / 2^((k:Int).toNat)) 1=if a.testBit k then 1 else 0:=by
 rw[y0q,show(1:Int)=((1:Nat):Int)from rfl,m0c]
 have:(a >>> k) &&& 1=(a.testBit k).toNat:=by
  rw[Nat.and_one_is_mod,Nat.testBit]
  rw[Nat.one_and_eq_mod_two]
  rcases Nat.mod_two_eq_zero_or_one (a >>> k)with p | p <;> simp[p]
 rw[this]
 cases a.testBit k <;> rfl
theorem s0x (k:Nat):(1:Int)*(2:Int)^((k:Int).toNat)=((1 <<< k:Nat):Int):=by
 rw[Int.toNat_natCast,Nat.shiftLeft_eq,Int.one_mul,Nat.one_mul]
 simp
def e0q (n:Nat):Nat:=if n=0 then 0 else n.log2+1
theorem w0t (n:Nat):Builtin.Int.intBits (n:Int)=e0q n:=by
 unfold Builtin.Int.intBits e0q
 by_cases h:n=0
 ·subst h;rfl
 ·rw[if_neg (by simp;omega),if_neg h];simp
def e0b (n:Nat):List Nat:=(List.range (e0q n)).filter n.testBit
def y0m (K:PySem.W.Frag):Sp:=fun vs H Q _=>∃(a:Addr) (ns:List Int),vs=[.ref a]/\SqL K H a (ns.map V.int)/\ns.length<=63/\∀H',Q (.bl true) H'
theorem a1b {n m:Nat}(h:n<2^m):e0q n<=m:=by
 unfold e0q
 by_cases h0:n=0
 ·rw[if_pos h0];omega
 ·rw[if_neg h0]
  exact(Nat.log2_lt h0).mpr h
theorem d0w:bootBuiltins "len" = some (.builtin "len"):=by decide +kernel
theorem e0p:bootBuiltins "isinstance" = some (.builtin "isinstance"):=by decide +kernel
theorem d1f:bootBuiltins "int" = some (.type "int"):=by decide +kernel
theorem a1a:bootBuiltins "bool" = some (.type "bool"):=by decide +kernel
theorem z0z:bootBuiltins "list" = some (.type "list"):=by decide +kernel
theorem q0w:bootBuiltins "tuple" = some (.type "tuple"):=by decide +kernel
theorem x0x:bootBuiltins "sum" = some (.builtin "sum"):=by decide +kernel
theorem x0y:bootBuiltins "min" = some (.builtin "min"):=by decide +kernel
theorem j0h:bootBuiltins "sorted" = some (.builtin "sorted"):=by decide +kernel
theorem n0z:bootBuiltins "enumerate" = some (.type "enumerate"):=by decide +kernel
section
variable {X:Cx}{a b e o:Expr}{es:List Expr}{ta tb te to:TE}{t:TA}{pos apos cpos:Pos}(K:PySem.W.Frag)
theorem i0h (ha:PE X a ta)(he:∀whole,isTrue a X.env whole=(do let v <- whole;standAt a.pos;holding [v] (truthy v)))(hK:X.K=K:=by rfl) :
  PT X a (fun σ H Q=>ta σ H fun x H'=>∃k,TruV K x H' k/\Q k H'):=by subst hK;exact v0y ha he
theorem e0j (hK:X.K=K:=by rfl):OpR X (compareOp .NotIn) (rIn K true):=by subst hK;exact m0q
theorem b0h (hK:X.K=K:=by rfl):IxR X (rIx K):=by subst hK;exact c1t
theorem v0u (hK:X.K=K:=by rfl):SlR X (rSlL K):=by subst hK;exact y0p
theorem b0j (hK:X.K=K:=by rfl):h0g X (.builtin "len") (fun xs H Q=>∃p ys,xs=[.ref p]/\(SqL K H p ys∨SqT K H p ys)/\Q (.int ys.length) H):=by subst hK;exact n0y
theorem r0w (hK:X.K=K:=by rfl):h0g X (.type "list") (fun xs H Q=>∃p ys,xs=[.ref p]/\(SqL K H p ys∨SqT K H p ys)/\∀l,H l=none->Q (.ref l) (upd H l (.lst ys))):=by subst hK;exact n0x
theorem p0o (hK:X.K=K:=by rfl):h0g X (.type "tuple") (fun xs H Q=>∃p ys,xs=[.ref p]/\((SqL K H p ys/\∀l,H l=none->Q (.ref l) (upd H l (.tup ys)))∨(SqT K H p ys/\Q (.ref p) H))):=by subst hK;exact m0a
theorem o0r {es:List Expr}{k:Nat}{t:TGs}{n:Nat}(hc:X.calm=true)(h:PGs X es t)(hn:(assignEach es X.env).length=n:=by rfl)(hst:(assignEach es X.env).findIdx? (·.1)=none:=by rfl)(hK:X.K=K:=by rfl) :
  PG X (.Tuple es k pos) (gTup K n t):=by subst hK;exact b1x hc h hn hst
variable {name:Str}{T id:String}{r:V->List V->Hp->VK->Prop}
theorem o0s (pa:PlainAttrs T)(slot:Slot T name id)(hty:typeOf (.builtin id)=pure (.type "method_descriptor"))(hm:MtR X id r)(ho:PE X o to)
  (hbase:attributeBase o name X.env (eval o X.env)=eval o X.env:=by rfl) (hline:(apos.endLine==cpos.line)=true:=by rfl) (hK:X.K=K:=by rfl):PE X (.Call (.Attribute o name apos) [] [] cpos) (tBM0 K T r to):=by
 subst hK;exact c1b pa slot hty hm ho hbase hline
theorem q0f (pa:PlainAttrs T)(slot:Slot T name id)(hty:typeOf (.builtin id)=pure (.type "method_descriptor"))(hm:MtR X id r)(ho:PE X o to)(ha:PA X (e::es) t)
  (hbase:attributeBase o name X.env (eval o X.env)=eval o X.env:=by rfl)
  (hfew:((backTo cpos (starEach (e::es) X.env)).all (fun x=>!x.1)&&(backToKw cpos (keywordEach [] X.env)).all (fun x=>x.1.isSome)&&decide ((e::es).length+([]:List Keyword).length+(if([]:List Keyword).isEmpty then 0 else 1)<30))=true:=by rfl)
  (hline:(apos.endLine==cpos.line)=true:=by rfl) (he:starEach (e::es) X.env=(false,eval e X.env)::starEach es X.env:=by rfl) (hpl:(backTo cpos (starEach es X.env)).any (·.1)=false:=by rfl)
  (hK:X.K=K:=by rfl):PE X (.Call (.Attribute o name apos) (e::es) [] cpos) (tBM K T r to t):=by
 subst hK
 exact d1r pa slot hty hm ho ha hbase hfew hline he hpl
end
inductive D where
 | non | bl (b:Bool) | int (i:Int) | str (x:Str) | tup (ds:List D) | lst (ds:List D)
def StT (H:Hp)(a:Addr)(xs:List V):Prop:=H a=some (.tup xs)
theorem StT.sq {K:PySem.W.Frag}{H:Hp}{a:Addr}{xs:List V}(h:StT H a xs):SqT K H a xs:=SqT.of h
instance {K:PySem.W.Frag} {H:Hp} {a:Addr} {xs:List V}:Coe (StT H a xs) (SqT K H a xs):=⟨StT.sq⟩
def StL (H:Hp)(a:Addr)(xs:List V):Prop:=H a=some (.lst xs)
theorem StL.sq {K:PySem.W.Frag}{H:Hp}{a:Addr}{xs:List V}(h:StL H a xs):SqL K H a xs:=SqL.of h
instance {K:PySem.W.Frag} {H:Hp} {a:Addr} {xs:List V}:Coe (StL H a xs) (SqL K H a xs):=⟨StL.sq⟩
mutual
def RepD (K:PySem.W.Frag)(H:Hp):V->D->Prop
 | v,.non=>v = .non
 | v,.bl b=>v = .bl b
 | v,.int i=>v = .int i
 | v,.str x=>v = .str x
 | v,.tup ds=>∃a vs,v = .ref a/\StT H a vs/\RepDs K H vs ds
 | v,.lst ds=>∃a vs,v = .ref a/\StL H a vs/\RepDs K H vs ds
def RepDs (K:PySem.W.Frag)(H:Hp):List V->List D->Prop
 | [],[]=>True
 | v::vs,d::ds=>RepD K H v d/\RepDs K H vs ds
 | _,_=>False
end
mutual
def eqD:D->D->Bool
 | .non,.non=>true
 | .bl a,.bl b=>a==b
 | .bl a,.int b=>(if a then 1 else 0)==b
 | .int a,.bl b=>a==(if b then 1 else 0)
 | .int a,.int b=>a==b
 | .str a,.str b=>a==b
 | .tup ds,.tup es=>eqDs ds es
 | .lst ds,.lst es=>eqDs ds es
 | _,_=>false
def eqDs:List D->List D->Bool
 | [],[]=>true
 | d::ds,e::es=>eqD d e&&eqDs ds es
 | _,_=>false
end
mutual
def D.depth:D->Nat
 | .tup ds=>depths ds+1
 | .lst ds=>depths ds+1
 | _=>0
def depths:List D->Nat
 | []=>0
 | d::ds=>max d.depth (depths ds)
end
section
variable {K:PySem.W.Frag}{H H':Hp}
theorem RepDs.length:∀ {vs:List V} {ds:List D},RepDs K H vs ds->vs.length=ds.length
 | [],[],_=>rfl
 | v::vs,d::ds,h=>by
  unfold RepDs at h
  rw[List.length_cons,List.length_cons,RepDs.length h.2]
 | [],d::ds,h=>by unfold RepDs at h;exact h.elim
 | v::vs,[],h=>by unfold RepDs at h;exact h.elim
theorem RepDs.get:∀ {vs:List V} {ds:List D} {i:Nat} {d:D},RepDs K H vs ds->ds[i]? = some d->∃v,vs[i]? = some v/\RepD K H v d
 | [],[],_,_,_,e=>by simp at e
 | v::vs,d::ds,0,_,h,e=>by
  unfold RepDs at h
  simp at e;subst e
  exact⟨v,rfl,h.1⟩
 | v::vs,d::ds,i+1,_,h,e=>by
  unfold RepDs at h
  obtain⟨u,a,b⟩:=RepDs.get (i:=i) h.2 (by simpa using e)
  exact⟨u,by simpa using a,b⟩
 | [],d::ds,_,_,h,_=>by unfold RepDs at h;exact h.elim
 | v::vs,[],_,_,h,_=>by unfold RepDs at h;exact h.elim
theorem RepDs.getV:∀ {vs:List V} {ds:List D} {i:Nat} {v:V},RepDs K H vs ds->vs[i]? = some v->∃d,ds[i]? = some d/\RepD K H v d
 | [],[],_,_,_,e=>by simp at e
 | v::vs,d::ds,0,_,h,e=>by
  unfold RepDs at h
  simp at e;subst e
  exact⟨d,rfl,h.1⟩
 | v::vs,d::ds,i+1,_,h,e=>by
  unfold RepDs at h
  obtain⟨u,a,b⟩:=RepDs.getV (i:=i) h.2 (by simpa using e)
  exact⟨u,by simpa using a,b⟩
 | [],d::ds,_,_,h,_=>by unfold RepDs at h;exact h.elim
 | v::vs,[],_,_,h,_=>by unfold RepDs at h;exact h.elim
theorem RepDs.append:∀ {vs ws:List V} {ds es:List D},RepDs K H vs ds->RepDs K H ws es->RepDs K H (vs++ws) (ds++es)
 | [],ws,[],es,_,h=>h
 | v::vs,ws,d::ds,es,h,h'=>by
  unfold RepDs at h
  show RepDs K H (v::(vs++ws)) (d::(ds++es))
  unfold RepDs
  exact⟨h.1,RepDs.append h.2 h'⟩
 | [],_,d::ds,_,h,_=>by unfold RepDs at h;exact h.elim
 | v::vs,_,[],_,h,_=>by unfold RepDs at h;exact h.elim
theorem RepDs.one {v:V}{d:D}(h:RepD K H v d):RepDs K H [v] [d]:=by unfold RepDs;exact⟨h,by unfold RepDs;trivial⟩
theorem RepDs.nil:RepDs K H [] []:=by unfold RepDs;trivial
theorem RepDs.cons {v:V}{d:D}{vs:List V}{ds:List D}(h:RepD K H v d)(t:RepDs K H vs ds):RepDs K H (v::vs) (d::ds):=by unfold RepDs;exact⟨h,t⟩
theorem g0w:∀ {vs:List V} {ns:List Int},RepDs K H vs (ns.map D.int)↔vs=ns.map V.int
 | [],[]=>by simp[RepDs]
 | v::vs,n::ns=>by
  have ih:=@g0w vs ns
  rw[List.map_cons,List.map_cons]
  unfold RepDs RepD
  rw[ih]
  constructor
  ·rintro⟨rfl,rfl⟩;rfl
  ·intro h;injection h with h1 h2;exact⟨h1,h2⟩
 | [],n::ns=>by rw[List.map_cons];unfold RepDs;simp
 | v::vs,[]=>by rw[List.map_nil];unfold RepDs;simp
mutual
theorem RepD.keep (hl:∀a vs,StL H a vs->StL H' a vs)(ht:∀a vs,StT H a vs->StT H' a vs):∀ {v:V} {d:D},RepD K H v d->RepD K H' v d
 | v,.non,h=>by unfold RepD at h ⊢;exact h
 | v,.bl b,h=>by unfold RepD at h ⊢;exact h
 | v,.int i,h=>by unfold RepD at h ⊢;exact h
 | v,.str x,h=>by unfold RepD at h ⊢;exact h
 | v,.tup ds,h=>by
  unfold RepD at h ⊢
  obtain⟨a,vs,e,h1,h2⟩:=h
  exact⟨a,vs,e,ht _ _ h1,RepDs.keep hl ht h2⟩
 | v,.lst ds,h=>by
  unfold RepD at h ⊢
  obtain⟨a,vs,e,h1,h2⟩:=h
  exact⟨a,vs,e,hl _ _ h1,RepDs.keep hl ht h2⟩
theorem RepDs.keep (hl:∀a vs,StL H a vs->StL H' a vs)(ht:∀a vs,StT H a vs->StT H' a vs):∀ {vs:List V} {ds:List D},RepDs K H vs ds->RepDs K H' vs ds
 | [],[],_=>RepDs.nil
 | v::vs,d::ds,h=>by
  unfold RepDs at h ⊢
  exact⟨RepD.keep hl ht h.1,RepDs.keep hl ht h.2⟩
 | [],d::ds,h=>by unfold RepDs at h;exact h.elim
 | v::vs,[],h=>by unfold RepDs at h;exact h.elim
end
theorem RepD.same {v:V}{d:D}(h:RepD K H v d)(s:Same H H'):RepD K H' v d:=h.keep (fun _ _ q=>s _ _ q) fun _ _ q=>s _ _ q
theorem RepDs.same {vs:List V}{ds:List D}(h:RepDs K H vs ds)(s:Same H H'):RepDs K H' vs ds:=h.keep (fun _ _ q=>s _ _ q) fun _ _ q=>s _ _ q
end
mutual
theorem e0l:∀d:D,eqD d d=true
 | .non=>by simp[eqD]
 | .bl b=>by simp[eqD]
 | .int i=>by simp[eqD]
 | .str x=>by simp[eqD]
 | .tup ds=>by unfold eqD;exact eqDs_refl ds
 | .lst ds=>by unfold eqD;exact eqDs_refl ds
theorem eqDs_refl:∀ds:List D,eqDs ds ds=true
 | []=>by simp[eqDs]
 | d::ds=>by unfold eqDs;rw[e0l d,eqDs_refl ds];rfl
end
section
variable {X:Cx}{pins:List (Addr×Obj)}{σ:St}{H:Hp}{s:Shared}
mutual
theorem h0v (I:Inv X pins σ H s):∀ {v:V} {d e:D},RepD X.K H v d->RepD X.K H v e->d=e
 | v,.non,e,h,h'=>by
  unfold RepD at h;subst h
  cases e <;> (unfold RepD at h';first | rfl | (obtain⟨_,_,z,_⟩:=h';cases z) | cases h')
 | v,.bl b,e,h,h'=>by
  unfold RepD at h;subst h
  cases e <;> (unfold RepD at h';first | (cases h';rfl) | (obtain⟨_,_,z,_⟩:=h';cases z) | cases h')
 | v,.int b,e,h,h'=>by
  unfold RepD at h;subst h
  cases e <;> (unfold RepD at h';first | (cases h';rfl) | (obtain⟨_,_,z,_⟩:=h';cases z) | cases h')
 | v,.str b,e,h,h'=>by
  unfold RepD at h;subst h
  cases e <;> (unfold RepD at h';first | (cases h';rfl) | (obtain⟨_,_,z,_⟩:=h';cases z) | cases h')
 | v,.tup ds,e,h,h'=>by
  unfold RepD at h
  obtain⟨a,vs,rfl,h1,h2⟩:=h
  cases e with
  | tup es =>
   unfold RepD at h'
   obtain⟨b,ws,z,g1,g2⟩:=h'
   cases z
   rw[I.tuple_inj g1.sq h1.sq]at g2
   rw[repDs_inj I h2 g2]
  | lst es =>
   unfold RepD at h'
   obtain⟨b,ws,z,g1,g2⟩:=h'
   cases z
   obtain⟨_,_,⟨o,n,e1,c1,_⟩,_⟩:=I.list (StL.sq g1)
   obtain⟨_,_,⟨o',e2,c2,_⟩,_⟩:=I.tuple h1.sq
   rw[e1]at e2;cases e2
   rw[c1]at c2
   exact absurd c2 (by decide)
  | non=>unfold RepD at h';cases h'
  | bl _=>unfold RepD at h';cases h'
  | int _=>unfold RepD at h';cases h'
  | str _=>unfold RepD at h';cases h'
 | v,.lst ds,e,h,h'=>by
  unfold RepD at h
  obtain⟨a,vs,rfl,h1,h2⟩:=h
  cases e with
  | lst es =>
   unfold RepD at h'
   obtain⟨b,ws,z,g1,g2⟩:=h'
   cases z
   rw[I.list_inj (StL.sq g1) (StL.sq h1)]at g2
   rw[repDs_inj I h2 g2]
  | tup es =>
   unfold RepD at h'
   obtain⟨b,ws,z,g1,g2⟩:=h'
   cases z
   obtain⟨_,_,⟨o,n,e1,c1,_⟩,_⟩:=I.list (StL.sq h1)
   obtain⟨_,_,⟨o',e2,c2,_⟩,_⟩:=I.tuple g1.sq
   rw[e1]at e2;cases e2
   rw[c1]at c2
   exact absurd c2 (by decide)
  | non=>unfold RepD at h';cases h'
  | bl _=>unfold RepD at h';cases h'
  | int _=>unfold RepD at h';cases h'
  | str _=>unfold RepD at h';cases h'
theorem repDs_inj (I:Inv X pins σ H s):∀ {vs:List V} {ds es:List D},RepDs X.K H vs ds->RepDs X.K H vs es->ds=es
 | [],[],[],_,_=>rfl
 | v::vs,d::ds,e::es,h,h'=>by
  unfold RepDs at h h'
  rw[h0v I h.1 h'.1,repDs_inj I h.2 h'.2]
 | [],d::ds,_,h,_=>by unfold RepDs at h;exact h.elim
 | v::vs,[],_,h,_=>by unfold RepDs at h;exact h.elim
 | [],_,d::ds,_,h=>by unfold RepDs at h;exact h.elim
 | v::vs,_,[],_,h=>by unfold RepDs at h;exact h.elim
end
end
theorem d0o (A:Around):A.in1.units=A.units+1:=rfl
theorem k0i:∀ {ds:List D} {j:Nat} {d:D},ds[j]? = some d->d.depth<=depths ds
 | [],_,_,h=>by simp at h
 | d::ds,0,_,h=>by simp at h;subst h;unfold depths;omega
 | d::ds,j+1,e,h=>by
  have:=k0i (ds:=ds) (j:=j) (by simpa using h)
  unfold depths;omega
def n0q (ds es:List D)(j:Nat):Bool:=match ds[j]?,es[j]? with
 | some d,some e=>eqD d e
 | _,_=>true
theorem e0c:∀ {ds es:List D},ds.length=es.length->(List.range ds.length).all (n0q ds es)=eqDs ds es
 | [],[],_=>by simp[eqDs]
 | d::ds,e::es,h=>by
  have ih:=e0c (ds:=ds) (es:=es) (by simpa using h)
  rw[List.length_cons,List.range_succ_eq_map,List.all_cons,List.all_map]
  unfold eqDs
  rw[<- ih]
  congr 1
 | [],_::_,h=>by simp at h
 | _::_,[],h=>by simp at h
theorem c0z:∀ {ds es:List D},ds.length≠es.length->eqDs ds es=false
 | [],[],h=>absurd rfl h
 | [],_::_,_=>by simp[eqDs]
 | _::_,[],_=>by simp[eqDs]
 | d::ds,e::es,h=>by
  unfold eqDs
  rw[c0z (ds:=ds) (es:=es) (by simpa using h),Bool.and_false]
section
variable {X:Cx}{pins:List (Addr×Obj)}{σ:St}{H:Hp}{s:Shared}
theorem h0w (I:Inv X pins σ H s){m:Nat}(ih:∀ {A:Around} {v u:V} {vv uu:Value} {d e:D},d.depth<=m->A.units+m<cLine->RelV v vv->RelV u uu->RepD X.K H v d->RepD X.K H u e->SeqAt.EqAt A s vv uu (eqD d e)){A:Around}(hu:A.units+m<cLine)
  {vs us:List V} {vvs uus:List Value} {ds es:List D} (hd:depths ds<=m) (rv:Vals vs vvs) (ru:Vals us uus) (hv:RepDs X.K H vs ds) (he:RepDs X.K H us es) :
  ∀j (h1:j<vvs.toArray.size) (h2:j<uus.toArray.size),SeqAt.EqAt A s vvs.toArray[j] uus.toArray[j] (n0q ds es j):=by
 intro j h1 h2
 rw[List.size_toArray]at h1 h2
 have l1:=rv.length
 have l2:=ru.length
 have g1:vs[j]? = some vs[j]:=List.getElem?_eq_getElem (by omega)
 have g2:us[j]? = some us[j]:=List.getElem?_eq_getElem (by omega)
 obtain⟨x,ex,rx⟩:=rv.get g1
 obtain⟨y,ey,ry⟩:=ru.get g2
 obtain⟨d,ed,rd⟩:=hv.getV g1
 obtain⟨e,ee,re⟩:=he.getV g2
 rw[List.getElem?_eq_getElem h1]at ex
 rw[List.getElem?_eq_getElem h2]at ey
 cases ex
 cases ey
 have:n0q ds es j=eqD d e:=by unfold n0q;rw[ed,ee]
 rw[this,List.getElem_toArray,List.getElem_toArray]
 exact ih (Nat.le_trans (k0i ed) hd) hu rx ry rd re
theorem x0l (I:Inv X pins σ H s)(n:Nat)(ih:0<n->∀ {A:Around} {v u:V} {vv uu:Value} {d e:D},d.depth<=n - 1->A.units+(n - 1)<cLine->RelV v vv->RelV u uu->RepD X.K H v d->RepD X.K H u e->SeqAt.EqAt A s vv uu (eqD d e))
  {A:Around} {v u:V} {vv uu:Value} {d e:D} (hd:d.depth<=n) (hu:A.units+n<cLine) (rv:RelV v vv) (ru:RelV u uu) (hv:RepD X.K H v d) (he:RepD X.K H u e):SeqAt.RcAt A s vv uu (eqD d e)/\SeqAt.EqAt A s vv uu (eqD d e):=by
 have hu0:A.units<cLine:=by omega
 have isL:∀ {a xs},StL H a xs->∃its:List Value,Vals xs its/\s.heap.IsList a its.toArray:=fun q=>by
  obtain⟨its,r,p,_⟩:=I.list q.sq
  exact⟨its,r,p.isList⟩
 have isT:∀ {a xs},StT H a xs->∃its:List Value,Vals xs its/\s.heap.IsTuple a its.toArray:=fun q=>by
  obtain⟨its,r,p,_⟩:=I.tuple q.sq
  exact⟨its,r,p⟩
 cases d with
 | non =>
  unfold RepD at hv;subst hv;cases rv
  cases e with
  | non=>unfold RepD at he;subst he;cases ru;exact⟨.none_none,.same _⟩
  | bl b=>unfold RepD at he;subst he;cases ru;exact⟨.none_bool _,.none_bool _⟩
  | int b=>unfold RepD at he;subst he;obtain⟨t,rfl⟩:=ru;exact⟨.none_int _ _,.none_int _ _⟩
  | str b=>unfold RepD at he;subst he;obtain⟨t,rfl⟩:=ru;exact⟨.none_str _ _,.none_str _ _⟩
  | tup es=>unfold RepD at he;obtain⟨a,vs,rfl,q,_⟩:=he;cases ru;obtain⟨its,_,q⟩:=isT q;exact⟨.none_tuple q hu0,.none_tuple q hu0⟩
  | lst es=>unfold RepD at he;obtain⟨a,vs,rfl,q,_⟩:=he;cases ru;obtain⟨its,_,q⟩:=isL q;exact⟨.none_list q hu0,.none_list q hu0⟩
 | bl x =>
  unfold RepD at hv;subst hv;cases rv
  cases e with
  | non=>unfold RepD at he;subst he;cases ru;exact⟨.bool_none _,.bool_none _⟩
  | bl b=>unfold RepD at he;subst he;cases ru;exact⟨.bool_bool _ _,.bool_bool _ _⟩
  | int b=>unfold RepD at he;subst he;obtain⟨t,rfl⟩:=ru;exact⟨.bool_int _ _ _,.bool_int _ _ _⟩
  | str b=>unfold RepD at he;subst he;obtain⟨t,rfl⟩:=ru;exact⟨.bool_str _ _ _,.bool_str _ _ _⟩
  | tup es=>unfold RepD at he;obtain⟨a,vs,rfl,q,_⟩:=he;cases ru;obtain⟨its,_,q⟩:=isT q;exact⟨.bool_tuple _ q hu0,.bool_tuple _ q hu0⟩
  | lst es=>unfold RepD at he;obtain⟨a,vs,rfl,q,_⟩:=he;cases ru;obtain⟨its,_,q⟩:=isL q;exact⟨.bool_list _ q hu0,.bool_list _ q hu0⟩
 | int x =>
  unfold RepD at hv;subst hv;obtain⟨t0,rfl⟩:=rv
  cases e with
  | non=>unfold RepD at he;subst he;cases ru;exact⟨.int_none _ _,.int_none _ _⟩
  | bl b=>unfold RepD at he;subst he;cases ru;exact⟨.int_bool _ _ _,.int_bool _ _ _⟩
  | int b=>unfold RepD at he;subst he;obtain⟨t,rfl⟩:=ru;exact⟨.int_int _ _ _ _,.int_int _ _ _ _⟩
  | str b=>unfold RepD at he;subst he;obtain⟨t,rfl⟩:=ru;exact⟨.int_str _ _ _ _,.int_str _ _ _ _⟩
  | tup es=>unfold RepD at he;obtain⟨a,vs,rfl,q,_⟩:=he;cases ru;obtain⟨its,_,q⟩:=isT q;exact⟨.int_tuple _ _ q hu0,.int_tuple _ _ q hu0⟩
  | lst es=>unfold RepD at he;obtain⟨a,vs,rfl,q,_⟩:=he;cases ru;obtain⟨its,_,q⟩:=isL q;exact⟨.int_list _ _ q hu0,.int_list _ _ q hu0⟩
 | str x =>
  unfold RepD at hv;subst hv;obtain⟨t0,rfl⟩:=rv
  cases e with
  | non=>unfold RepD at he;subst he;cases ru;exact⟨.str_none _ _,.str_none _ _⟩
  | bl b=>unfold RepD at he;subst he;cases ru;exact⟨.str_bool _ _ _,.str_bool _ _ _⟩
  | int b=>unfold RepD at he;subst he;obtain⟨t,rfl⟩:=ru;exact⟨.str_int _ _ _ _,.str_int _ _ _ _⟩
  | str b=>unfold RepD at he;subst he;obtain⟨t,rfl⟩:=ru;exact⟨.str_str _ _ _ _,.str_str _ _ _ _⟩
  | tup es=>unfold RepD at he;obtain⟨a,vs,rfl,q,_⟩:=he;cases ru;obtain⟨its,_,q⟩:=isT q;exact⟨.str_tuple _ _ q hu0,.str_tuple _ _ q hu0⟩
  | lst es=>unfold RepD at he;obtain⟨a,vs,rfl,q,_⟩:=he;cases ru;obtain⟨its,_,q⟩:=isL q;exact⟨.str_list _ _ q hu0,.str_list _ _ q hu0⟩
 | tup ds =>
  have hv0:=hv
  unfold RepD at hv
  obtain⟨a,vs,rfl,q,hq⟩:=hv
  cases rv
  obtain⟨its,r1,q1⟩:=isT q
  cases e with
  | non=>unfold RepD at he;subst he;cases ru;exact⟨.tuple_none q1 hu0,.tuple_none q1 hu0⟩
  | bl b=>unfold RepD at he;subst he;cases ru;exact⟨.tuple_bool _ q1 hu0,.tuple_bool _ q1 hu0⟩
  | int b=>unfold RepD at he;subst he;obtain⟨t,rfl⟩:=ru;exact⟨.tuple_int _ _ q1 hu0,.tuple_int _ _ q1 hu0⟩
  | str b=>unfold RepD at he;subst he;obtain⟨t,rfl⟩:=ru;exact⟨.tuple_str _ _ q1 hu0,.tuple_str _ _ q1 hu0⟩
  | lst es=>unfold RepD at he;obtain⟨b,ws,rfl,g,_⟩:=he;cases ru;obtain⟨its2,_,g1⟩:=isL g;exact⟨.tuple_list q1 g1 hu0,.tuple_list q1 g1 hu0⟩
  | tup es =>
   have he0:=he
   unfold RepD at he
   obtain⟨b,ws,rfl,g,hg⟩:=he
   cases ru
   obtain⟨its2,r2,g1⟩:=isT g
   have hd':depths ds+1<=n:=by simpa [D.depth] using hd
   have l1:=r1.length
   have l2:=r2.length
   have m1:=hq.length
   have m2:=hg.length
   have rc:SeqAt.RcAt A s (.ref a) (.ref b) (eqD (.tup ds) (.tup es)):=by
    have:=SeqAt.RcAt.tuples (e:=n0q ds es) q1 g1 hu0 (h0w I (fun{A} {v} {u} {vv} {uu} {d} {e}=>ih (by omega) (A:=A)) (A:=A.in1) (by rw[d0o];omega) (m:=n - 1) (by omega) r1 r2 hq hg)
    rw[List.size_toArray,List.size_toArray]at this
    unfold eqD
    by_cases hl:ds.length=es.length
    ·have z:(its.length==its2.length)=true:=by rw[beq_iff_eq];omega
     have mm:min its.length its2.length=ds.length:=by omega
     rw[z,Bool.and_true,mm,e0c hl]at this
     exact this
    ·have z:(its.length==its2.length)=false:=by rw[beq_eq_false_iff_ne];omega
     rw[z,Bool.and_false]at this
     rw[c0z hl]
     exact this
   refine⟨rc,?_⟩
   by_cases hab:a=b
   ·subst hab
    rw[h0v I hv0 he0,e0l]
    exact .same _
   ·exact .of_refs hab rc
 | lst ds =>
  have hv0:=hv
  unfold RepD at hv
  obtain⟨a,vs,rfl,q,hq⟩:=hv
  cases rv
  obtain⟨its,r1,q1⟩:=isL q
  cases e with
  | non=>unfold RepD at he;subst he;cases ru;exact⟨.list_none q1 hu0,.list_none q1 hu0⟩
  | bl b=>unfold RepD at he;subst he;cases ru;exact⟨.list_bool _ q1 hu0,.list_bool _ q1 hu0⟩
  | int b=>unfold RepD at he;subst he;obtain⟨t,rfl⟩:=ru;exact⟨.list_int _ _ q1 hu0,.list_int _ _ q1 hu0⟩
  | str b=>unfold RepD at he;subst he;obtain⟨t,rfl⟩:=ru;exact⟨.list_str _ _ q1 hu0,.list_str _ _ q1 hu0⟩
  | tup es=>unfold RepD at he;obtain⟨b,ws,rfl,g,_⟩:=he;cases ru;obtain⟨its2,_,g1⟩:=isT g;exact⟨.list_tuple q1 g1 hu0,.list_tuple q1 g1 hu0⟩
  | lst es =>
   have he0:=he
   unfold RepD at he
   obtain⟨b,ws,rfl,g,hg⟩:=he
   cases ru
   obtain⟨its2,r2,g1⟩:=isL g
   have hd':depths ds+1<=n:=by simpa [D.depth] using hd
   have l1:=r1.length
   have l2:=r2.length
   have m1:=hq.length
   have m2:=hg.length
   have rc:SeqAt.RcAt A s (.ref a) (.ref b) (eqD (.lst ds) (.lst es)):=by
    unfold eqD
    by_cases hl:ds.length=es.length
    ·have:=SeqAt.RcAt.lists (e:=n0q ds es) q1 g1 (by rw[List.size_toArray,List.size_toArray];omega) hu0 (h0w I (fun{A} {v} {u} {vv} {uu} {d} {e}=>ih (by omega) (A:=A)) (A:=A.in1) (by rw[d0o];omega) (m:=n - 1) (by omega) r1 r2 hq hg)
     rw[List.size_toArray,show its.length=ds.length by omega,e0c hl]at this
     exact this
    ·rw[c0z hl]
     exact SeqAt.RcAt.lists_lengths q1 g1 (by rw[List.size_toArray,List.size_toArray,bne_iff_ne];omega) hu0
   refine⟨rc,?_⟩
   by_cases hab:a=b
   ·subst hab
    rw[h0v I hv0 he0,e0l]
    exact .same _
   ·exact .of_refs hab rc
theorem q0d (I:Inv X pins σ H s):∀(n:Nat) {A:Around} {v u:V} {vv uu:Value} {d e:D},d.depth<=n->A.units+n<cLine->RelV v vv->RelV u uu->RepD X.K H v d->RepD X.K H u e ->
  SeqAt.RcAt A s vv uu (eqD d e)/\SeqAt.EqAt A s vv uu (eqD d e):=by
 intro n
 induction n with
 | zero=>exact fun hd hu=>x0l I 0 (fun hlt=>absurd hlt (by omega)) hd hu
 | succ n ih=>exact fun hd hu=>x0l I (n+1) (fun _ A v u vv uu d e h1 h2 h3 h4 h5 h6=>(ih (A:=A) h1 h2 h3 h4 h5 h6).2) hd hu
end
section
variable {X:Cx}(K:PySem.W.Frag)
def rEqD (K:PySem.W.Frag):R2:=fun x y H Q=>∃d e,RepD K H x d/\RepD K H y e/\d.depth<=60/\Q (.bl (eqD d e)) H
def rNeD (K:PySem.W.Frag):R2:=fun x y H Q=>∃d e,RepD K H x d/\RepD K H y e/\d.depth<=60/\Q (.bl (!eqD d e)) H
theorem f0p (hu:X.A.units+64<cLine)(hK:X.K=K:=by rfl):OpR X (compareOp .Eq) (rEqD K):=by
 subst hK
 intro pins s σ H x y v u Q I rx ry h
 obtain⟨d,e,hd,he,hz,q⟩:=h
 exact(q0d I 60 hz (by omega) rx ry hd he).1 X.prog X.w _ _ ⟨.bl _,H,I,rfl,q⟩
theorem b1p {pins:List (Addr×Obj)}{σ:St}{H:Hp}{s:Shared}(I:Inv X pins σ H s){A:Around}{v u:V}{vv uu:Value}{d e:D}(hd:d.depth<=60)(hu:A.units+61<cLine)(rv:RelV v vv)(ru:RelV u uu)(hv:RepD X.K H v d)(he:RepD X.K H u e) :
  SeqAt.RcNeAt A s vv uu (!eqD d e):=by
 have hu0:A.units<cLine:=by omega
 have isL:∀ {a xs},StL H a xs->∃its:List Value,Vals xs its/\s.heap.IsList a its.toArray:=fun q=>by
  obtain⟨its,r,p,_⟩:=I.list q.sq
  exact⟨its,r,p.isList⟩
 have isT:∀ {a xs},StT H a xs->∃its:List Value,Vals xs its/\s.heap.IsTuple a its.toArray:=fun q=>by
  obtain⟨its,r,p,_⟩:=I.tuple q.sq
  exact⟨its,r,p⟩
 cases d with
 | non =>
  unfold RepD at hv;subst hv;cases rv
  cases e with
  | non=>unfold RepD at he;subst he;cases ru;exact .none_none
  | bl b=>unfold RepD at he;subst he;cases ru;exact .none_bool _
  | int b=>unfold RepD at he;subst he;obtain⟨t,rfl⟩:=ru;exact .none_int _ _
  | str b=>unfold RepD at he;subst he;obtain⟨t,rfl⟩:=ru;exact .none_str _ _
  | tup es=>unfold RepD at he;obtain⟨a,vs,rfl,q,_⟩:=he;cases ru;obtain⟨its,_,q⟩:=isT q;exact .none_tuple q hu0
  | lst es=>unfold RepD at he;obtain⟨a,vs,rfl,q,_⟩:=he;cases ru;obtain⟨its,_,q⟩:=isL q;exact .none_list q hu0
 | bl x =>
  unfold RepD at hv;subst hv;cases rv
  cases e with
  | non=>unfold RepD at he;subst he;cases ru;exact .bool_none _
  | bl b=>unfold RepD at he;subst he;cases ru;exact .bool_bool _ _
  | int b=>unfold RepD at he;subst he;obtain⟨t,rfl⟩:=ru;exact .bool_int _ _ _
  | str b=>unfold RepD at he;subst he;obtain⟨t,rfl⟩:=ru;exact .bool_str _ _ _
  | tup es=>unfold RepD at he;obtain⟨a,vs,rfl,q,_⟩:=he;cases ru;obtain⟨its,_,q⟩:=isT q;exact .bool_tuple _ q hu0
  | lst es=>unfold RepD at he;obtain⟨a,vs,rfl,q,_⟩:=he;cases ru;obtain⟨its,_,q⟩:=isL q;exact .bool_list _ q hu0
 | int x =>
  unfold RepD at hv;subst hv;obtain⟨t0,rfl⟩:=rv
  cases e with
  | non=>unfold RepD at he;subst he;cases ru;exact .int_none _ _
  | bl b=>unfold RepD at he;subst he;cases ru;exact .int_bool _ _ _
  | int b=>unfold RepD at he;subst he;obtain⟨t,rfl⟩:=ru;exact .int_int _ _ _ _
  | str b=>unfold RepD at he;subst he;obtain⟨t,rfl⟩:=ru;exact .int_str _ _ _ _
  | tup es=>unfold RepD at he;obtain⟨a,vs,rfl,q,_⟩:=he;cases ru;obtain⟨its,_,q⟩:=isT q;exact .int_tuple _ _ q hu0
  | lst es=>unfold RepD at he;obtain⟨a,vs,rfl,q,_⟩:=he;cases ru;obtain⟨its,_,q⟩:=isL q;exact .int_list _ _ q hu0
 | str x =>
  unfold RepD at hv;subst hv;obtain⟨t0,rfl⟩:=rv
  cases e with
  | non=>unfold RepD at he;subst he;cases ru;exact .str_none _ _
  | bl b=>unfold RepD at he;subst he;cases ru;exact .str_bool _ _ _
  | int b=>unfold RepD at he;subst he;obtain⟨t,rfl⟩:=ru;exact .str_int _ _ _ _
  | str b=>unfold RepD at he;subst he;obtain⟨t,rfl⟩:=ru;exact .str_str _ _ _ _
  | tup es=>unfold RepD at he;obtain⟨a,vs,rfl,q,_⟩:=he;cases ru;obtain⟨its,_,q⟩:=isT q;exact .str_tuple _ _ q hu0
  | lst es=>unfold RepD at he;obtain⟨a,vs,rfl,q,_⟩:=he;cases ru;obtain⟨its,_,q⟩:=isL q;exact .str_list _ _ q hu0
 | tup ds =>
  unfold RepD at hv
  obtain⟨a,vs,rfl,q,hq⟩:=hv
  cases rv
  obtain⟨its,r1,q1⟩:=isT q
  cases e with
  | non=>unfold RepD at he;subst he;cases ru;exact .tuple_none q1 hu0
  | bl b=>unfold RepD at he;subst he;cases ru;exact .tuple_bool _ q1 hu0
  | int b=>unfold RepD at he;subst he;obtain⟨t,rfl⟩:=ru;exact .tuple_int _ _ q1 hu0
  | str b=>unfold RepD at he;subst he;obtain⟨t,rfl⟩:=ru;exact .tuple_str _ _ q1 hu0
  | lst es=>unfold RepD at he;obtain⟨b,ws,rfl,g,_⟩:=he;cases ru;obtain⟨its2,_,g1⟩:=isL g;exact .tuple_list q1 g1 hu0
  | tup es =>
   unfold RepD at he
   obtain⟨b,ws,rfl,g,hg⟩:=he
   cases ru
   obtain⟨its2,r2,g1⟩:=isT g
   have hd':depths ds+1<=60:=by simpa [D.depth] using hd
   have l1:=r1.length
   have l2:=r2.length
   have m1:=hq.length
   have m2:=hg.length
   have:=SeqAt.RcNeAt.tuples (e:=n0q ds es) q1 g1 hu0 (h0w I (fun{A} {v} {u} {vv} {uu} {d} {e} a1 a2 a3 a4 a5 a6=>(q0d I 60 a1 a2 a3 a4 a5 a6).2) (A:=A.in1) (by rw[d0o];omega) (m:=60) (by omega) r1 r2 hq hg)
   rw[List.size_toArray,List.size_toArray]at this
   unfold eqD
   by_cases hl:ds.length=es.length
   ·have z:(its.length==its2.length)=true:=by rw[beq_iff_eq];omega
    have mm:min its.length its2.length=ds.length:=by omega
    rw[z,Bool.and_true,mm,e0c hl]at this
    exact this
   ·have z:(its.length==its2.length)=false:=by rw[beq_eq_false_iff_ne];omega
    rw[z,Bool.and_false]at this
    rw[c0z hl]
    exact this
 | lst ds =>
  unfold RepD at hv
  obtain⟨a,vs,rfl,q,hq⟩:=hv
  cases rv
  obtain⟨its,r1,q1⟩:=isL q
  cases e with
  | non=>unfold RepD at he;subst he;cases ru;exact .list_none q1 hu0
  | bl b=>unfold RepD at he;subst he;cases ru;exact .list_bool _ q1 hu0
  | int b=>unfold RepD at he;subst he;obtain⟨t,rfl⟩:=ru;exact .list_int _ _ q1 hu0
  | str b=>unfold RepD at he;subst he;obtain⟨t,rfl⟩:=ru;exact .list_str _ _ q1 hu0
  | tup es=>unfold RepD at he;obtain⟨b,ws,rfl,g,_⟩:=he;cases ru;obtain⟨its2,_,g1⟩:=isT g;exact .list_tuple q1 g1 hu0
  | lst es =>
   unfold RepD at he
   obtain⟨b,ws,rfl,g,hg⟩:=he
   cases ru
   obtain⟨its2,r2,g1⟩:=isL g
   have hd':depths ds+1<=60:=by simpa [D.depth] using hd
   have l1:=r1.length
   have l2:=r2.length
   have m1:=hq.length
   have m2:=hg.length
   unfold eqD
   by_cases hl:ds.length=es.length
   ·have:=SeqAt.RcNeAt.lists (e:=n0q ds es) q1 g1 (by rw[List.size_toArray,List.size_toArray];omega) hu0 (h0w I (fun{A} {v} {u} {vv} {uu} {d} {e} a1 a2 a3 a4 a5 a6=>(q0d I 60 a1 a2 a3 a4 a5 a6).2) (A:=A.in1) (by rw[d0o];omega) (m:=60) (by omega) r1 r2 hq hg)
    rw[List.size_toArray,show its.length=ds.length by omega,e0c hl]at this
    exact this
   ·rw[c0z hl]
    exact SeqAt.RcNeAt.lists_lengths q1 g1 (by rw[List.size_toArray,List.size_toArray,bne_iff_ne];omega) hu0
theorem i0k (hu:X.A.units+64<cLine)(hK:X.K=K:=by rfl):OpR X (compareOp .NotEq) (rNeD K):=by
 subst hK
 intro pins s σ H x y v u Q I rx ry h
 obtain⟨d,e,hd,he,hz,q⟩:=h
 exact b1p I hz (by omega) rx ry hd he X.prog X.w _ _ ⟨.bl _,H,I,rfl,q⟩
theorem f0v (ns:List Int):∀j,j<=ns.length->preSum (fun i=>ns.getD i 0) j=(ns.take j).sum
 | 0,_=>by simp[preSum]
 | j+1,h=>by
  rw[preSum,f0v ns j (by omega),List.take_add_one,List.sum_append]
  have:ns[j]? = some ns[j]:=List.getElem?_eq_getElem (by omega)
  rw[this,List.getD_eq_getElem?_getD,this]
  simp
theorem i0d {ns:List Int}(h:∀n∈ns,0<=n):∀j,0<=(ns.take j).sum/\(ns.take j).sum<=ns.sum:=by
 induction ns with
 | nil=>intro j;simp
 | cons a r ih =>
  intro j
  have ha:=h a List.mem_cons_self
  have ih':=ih fun n hn=>h n (List.mem_cons_of_mem _ hn)
  have h0:=ih' r.length
  rw[List.take_length]at h0
  cases j with
  | zero=>simp;omega
  | succ j =>
   have:=ih' j
   simp only[List.take_succ_cons,List.sum_cons]
   omega
theorem r0n {ns:List Int}(h:∀n∈ns,0<=n):∀n∈ns,n<=ns.sum:=by
 induction ns with
 | nil=>intro n hn;cases hn
 | cons a r ih =>
  intro n hn
  have ha:=h a List.mem_cons_self
  have hr:∀n∈r,0<=n:=fun n hn=>h n (List.mem_cons_of_mem _ hn)
  have h0:=i0d hr r.length
  rw[List.take_length]at h0
  rw[List.sum_cons]
  rcases List.mem_cons.mp hn with rfl | hn
  ·omega
  ·have:=ih hr n hn
   omega
theorem n0v (hc:X.calm=true)(hK:X.K=K:=by rfl):h0g X (.builtin "sum") (fun xs H Q=>∃(p:Addr) (ns:List Int),xs=[.ref p]/\SqL K H p (ns.map V.int)/\(∀n∈ns,0<=n)/\ns.sum<2^62/\Q (.int ns.sum) H):=by
 subst hK
 intro pins s σ H xs us Q I r h
 obtain⟨p,ns,rfl,hq,h0,hb,q⟩:=h
 obtain⟨u,rfl,ru⟩:=m0h r
 cases ru
 obtain⟨its,rv,pl,hz⟩:=I.list hq
 refine call_sum_walk (wpAny_pyIter_list pl.isList ?_)
 have hne:p≠s.heap.objs.size:=Nat.ne_of_lt (by obtain⟨o,n,e,_⟩:=pl;exact Heap.lt_size e)
 have hl:its.length=ns.length:=by have:=rv.length;rw[List.length_map]at this;omega
 refine⟨s.heap.objs.size,_,_,_,_,_,fun i=>ns.getD i 0,rfl,Walks.list (A:=X.A.in1) (show X.A.in1.handled=none from I.ok.hd hc) s.heap.objs.size p hne its.toArray,⟨⟨_,Heap.get?_push_size _ rfl,rfl,rfl⟩,?_⟩,fun b hb=>?_,fun i v hv=>?_,fun j hj=>?_,fun h' tk t' hk=>?_⟩
 ·exact pl.isList.at fun o e=>Heap.get?_push_of_some _ e
 ·rw[Heap.size_push]
  rcases List.mem_cons.mp hb with rfl | hb
  ·exact Nat.lt_succ_self _
  ·rw[List.mem_singleton.mp hb]
   obtain⟨o,n,e,_⟩:=pl
   exact Nat.lt_succ_of_lt (Heap.lt_size e)
 ·have hv':its[i]? = some v:=by simpa using hv
  have hi:i<its.length:=(List.getElem?_eq_some_iff.mp hv').1
  obtain⟨w,e1,e2⟩:=rv.get (i:=i) (x:=V.int ns[i]) (by rw[List.getElem?_map,List.getElem?_eq_getElem (by omega)];rfl)
  rw[hv']at e1;cases e1
  obtain⟨t,rfl⟩:=e2
  exact⟨t,by show _=Value.int (ns.getD i 0) t;rw[List.getD_eq_getElem?_getD,List.getElem?_eq_getElem (by omega)];rfl⟩
 ·rw[List.size_toArray]at hj
  have m1:ns.getD j 0∈ns:=by
   rw[List.getD_eq_getElem?_getD,List.getElem?_eq_getElem (by omega)]
   exact List.getElem_mem _
  have a1:=h0 _ m1
  have a2:=r0n h0 _ m1
  have a3:=i0d h0 (j+1)
  rw[f0v ns (j+1) (by omega)]
  exact⟨⟨by show _<=ns.getD j 0;omega,by show ns.getD j 0<_;omega⟩,by omega,by omega⟩
 ·rw[List.size_toArray,hl,f0v ns _ (Nat.le_refl _),List.take_length]
  refine⟨.int ns.sum,H,I.kept fun b o e=>?_,⟨_,rfl⟩,q⟩
  refine hk b o (fun z=>?_) (Heap.get?_push_of_some _ e)
  rw[List.mem_singleton.mp z]at e
  exact absurd (Heap.lt_size e) (Nat.lt_irrefl _)
end
abbrev a0e (ks:List Nat):List D:=ks.map fun j=>D.int (j:Nat)
theorem h0c:∀ks:List Nat,depths (a0e ks)=0
 | []=>by simp[depths]
 | a::r=>by
  have:=h0c r
  show depths (D.int (a:Nat)::a0e r)=0
  unfold depths
  rw[this]
  simp[D.depth]
def tyD:D->String
 | .non => "NoneType" | .bl _ => "bool" | .int _ => "int" | .str _ => "str" | .tup _ => "tuple" | .lst _ => "list"
theorem j0g (K:PySem.W.Frag){X:Cx}(hK:X.K=K:=by rfl):h0g X (.builtin "isinstance") (fun xs H Q=>∃x d T b,xs=[x,.ty T]/\RepD K H x d/\isaT (tyD d) T=some b/\Q (.bl b) H):=by
 subst hK
 intro pins s σ H xs us Q I r h
 obtain⟨x,d,T,b,rfl,hd,e,q⟩:=h
 cases r with
 | cons r1 rr =>
  cases rr with
  | cons r2 rr =>
   cases rr
   cases (show _=Value.type T from r2)
   have e':∀ {t:String},tyD d=t->PySem.W.kitOne X.K (.type t) (.type T)=some b:=fun{t} z=>by rw[<- z];exact w0j.trans e
   have fin:∀tk,EP X pins σ Q (.bool b) {s with toks:=tk}:=fun tk=>⟨.bl b,H,I.tok tk,rfl,q⟩
   cases d with
   | non=>unfold RepD at hd;subst hd;exact g0m I r1 .non (e' rfl) fin
   | bl y=>unfold RepD at hd;subst hd;exact g0m I r1 (.bl y) (e' rfl) fin
   | int y=>unfold RepD at hd;subst hd;exact g0m I r1 (.int y) (e' rfl) fin
   | str y=>unfold RepD at hd;subst hd;exact g0m I r1 (.str y) (e' rfl) fin
   | tup ds =>
    unfold RepD at hd
    obtain⟨a,vs,rfl,hq,_⟩:=hd
    cases r1
    obtain⟨its,_,⟨o,h1,h2,_⟩,_⟩:=I.tuple hq.sq
    exact PySem.W.kia_one PySem.W.kitx_tuple I.kIn ⟨o,h1,h2⟩ (e' rfl) (fun z=>nomatch z) fin
   | lst ds =>
    unfold RepD at hd
    obtain⟨a,vs,rfl,hq,_⟩:=hd
    cases r1
    obtain⟨its,_,⟨o,n,h1,h2,_⟩,_⟩:=I.list (StL.sq hq)
    exact PySem.W.kia_one PySem.W.kitx_list I.kIn ⟨o,h1,h2⟩ (e' rfl) (fun z=>nomatch z) fin
inductive Sv where
 | un | vl (d:D) | ow (ds:List D) | tp (n:Nat) | dk (kvs:List (Key×D)) | dt (kvs:List (List Key×D)) | ex (C:Addr) (fs:Option (List (Str×D))) | sc (ns:List Int) | px (d:D) (C:Addr) (fs:Option (List (Str×D))) | xl (es:List (Addr×Option (List (Str×D))))
def Sv.own:Sv->Bool
 | .ow _=>true
 | .tp _=>true
 | .dk _=>true
 | .dt _=>true
 | _=>false
abbrev En:=List Sv
inductive R where
 | d (d:D) | o (i:Nat) | n (s:Sv) | t (n:String) | x (s:Sv)
abbrev R.f (ds:List D):R:=.n (.ow ds)
def gt:En->Nat->Sv
 | [],_=>.un
 | s::_,0=>s
 | _::r,n+1=>gt r n
def pt:En->Nat->Sv->En
 | [],_,_=>[]
 | _::r,0,s=>s::r
 | x::r,n+1,s=>x::pt r n s
theorem d0s:∀(ρ:En) (i:Nat) (s:Sv),(pt ρ i s).length=ρ.length
 | [],_,_=>rfl
 | _::_,0,_=>rfl
 | x::r,n+1,s=>by simp[pt,d0s r n s]
theorem b0g:∀(ρ:En) (i j:Nat) (s:Sv),i≠j->gt (pt ρ i s) j=gt ρ j
 | [],_,_,_,_=>rfl
 | _::_,0,0,_,h=>absurd rfl h
 | _::_,0,j+1,_,_=>rfl
 | x::r,i+1,0,s,_=>rfl
 | x::r,i+1,j+1,s,h=>b0g r i j s (by omega)
theorem h0r:∀(ρ:En) (i:Nat) (s:Sv),i<ρ.length->gt (pt ρ i s) i=s
 | [],_,_,h=>by simp at h
 | _::_,0,_,_=>rfl
 | x::r,i+1,s,h=>h0r r i s (by simpa using h)
theorem g0o:∀(ρ:En) (i:Nat),ρ.length<=i->gt ρ i = .un
 | [],_,_=>rfl
 | x::r,0,h=>by simp at h
 | x::r,i+1,h=>g0o r i (by simpa using h)
theorem k0b {ρ:En}{i:Nat}(h:(gt ρ i).own=true):i<ρ.length:=by
 rcases Nat.lt_or_ge i ρ.length with q | q
 ·exact q
 ·rw[g0o ρ i q]at h;cases h
def b0c (σ:St)(ρ:En)(a:Addr):Prop:=∃i,(gt ρ i).own=true/\σ[i]? = some (some (.ref a))
open Classical in
noncomputable def hid (H:Hp)(S:Addr->Prop):Hp:=fun a=>if S a then none else H a
theorem d0v {H:Hp}{S:Addr->Prop}{a:Addr}{o:HO}:hid H S a=some o↔¬S a/\H a=some o:=by
 unfold hid
 split
 ·rename_i h;simp[h]
 ·rename_i h;simp[h]
theorem f0r {H:Hp}{S:Addr->Prop}{a:Addr}{o:HO}(h:¬S a)(e:H a=some o):hid H S a=some o:=d0v.mpr ⟨h,e⟩
theorem a0y {H H':Hp}{S S':Addr->Prop}(h:∀a o,H a=some o->¬S a->H' a=some o/\¬S' a):Same (hid H S) (hid H' S'):=fun a o e=>by
 obtain⟨n,e⟩:=d0v.mp e
 obtain⟨e',n'⟩:=h a o e n
 exact f0r n' e'
theorem b0m {H:Hp}{S:Addr->Prop}:Same (hid H S) H:=fun a o e=>(d0v.mp e).2
structure Fr where
 H0:Hp
 Z:Addr->Prop
 M:Addr->Prop
 I:Nat->Addr->Prop
 P:Nat->Addr->Prop
def Fr.pin (F:Fr)(i:Nat)(a:Addr):Prop:=F.I i a∨F.P i a
def hs (F:Fr)(σ:St)(ρ:En):Addr->Prop:=fun a=>F.Z a∨b0c σ ρ a
def exP (e C:Addr)(od:Option Addr):Heap->Prop:=fun h=>∃oe vs,h.get? e=some oe/\oe.cls = .ref C/\oe.dict=od/\oe.data = .fields vs
def exD (K:PySem.W.Frag)(Hh:Hp):Option (List (Str×D))->Option Addr->Prop
 | none,none=>True
 | some fs,some dx=>∃ks,Hh dx=some (.xd ks)/\ks.map Prod.fst=fs.map Prod.fst/\RepDs K Hh (ks.map Prod.snd) (fs.map Prod.snd)
 | _,_=>False
theorem exD.same {K:PySem.W.Frag}{Hh Hh':Hp}:∀ {fs:Option (List (Str×D))} {od:Option Addr},exD K Hh fs od->Same Hh Hh'->exD K Hh' fs od
 | none,none,h,_=>h
 | some fs,some dx,⟨ks,h1,h2,h3⟩,g=>⟨ks,g _ _ h1,h2,h3.same g⟩
 | none,some _,h,_=>h.elim
 | some _,none,h,_=>h.elim
def Exs (K:PySem.W.Frag)(Hh:Hp):List V->List (Addr×Option (List (Str×D)))->Prop
 | [],[]=>True
 | x::vs,c::es=>(∃e od,x = .ref e/\Hh e=some (.ext (exP e c.1 od))/\exD K Hh c.2 od)/\Exs K Hh vs es
 | _,_=>False
theorem Exs.same {K:PySem.W.Frag}{Hh Hh':Hp}:∀ {vs:List V} {es:List (Addr×Option (List (Str×D)))},Exs K Hh vs es->Same Hh Hh'->Exs K Hh' vs es
 | [],[],h,_=>h
 | x::vs,c::es,⟨⟨e,od,h1,h2,h3⟩,h4⟩,g=>⟨⟨e,od,h1,g _ _ h2,h3.same g⟩,Exs.same h4 g⟩
 | [],_::_,h,_=>h.elim
 | _::_,[],h,_=>h.elim
def SvOk (K:PySem.W.Frag)(Hh H:Hp)(v:Option (Option V)):Sv->Prop
 | .xl es=>∃l vs,v=some (some (.ref l))/\Hh l=some (.lst vs)/\Exs K Hh vs es
 | .px d C fs=>∃p x e od,v=some (some (.ref p))/\Hh p=some (.tup [x,.ref e])/\RepD K Hh x d/\Hh e=some (.ext (exP e C od))/\exD K Hh fs od
 | .sc ns=>∃c,v=some (some (.ref c))/\SqL K Hh c (List.map V.int ns)
 | .ex C fs=>∃e od,v=some (some (.ref e))/\Hh e=some (.ext (exP e C od))/\exD K Hh fs od
 | .un=>True
 | .vl d=>∃x,v=some (some x)/\RepD K Hh x d
 | .ow ds=>∃l vs,v=some (some (.ref l))/\H l=some (.lst vs)/\RepDs K Hh vs ds
 | .tp n=>∃t c ns sp lf,v=some (some (.ref t))/\H t=some (.dK (c0b c sp lf))/\SqL K Hh c (List.map V.int ns)/\0<=sp/\sp<=n/\0<=lf
 | .dk kvs=>∃t ks,v=some (some (.ref t))/\H t=some (.dK ks)/\ks.map Prod.fst=kvs.map Prod.fst/\RepDs K Hh (ks.map Prod.snd) (kvs.map Prod.snd)
 | .dt kvs=>∃t ks,v=some (some (.ref t))/\H t=some (.dT ks)/\ks.map Prod.fst=kvs.map Prod.fst/\RepDs K Hh (ks.map Prod.snd) (kvs.map Prod.snd)
theorem SvOk.keep {K:PySem.W.Frag}{Hh Hh' H H':Hp}{v:Option (Option V)}{s:Sv}(h:SvOk K Hh H v s)(g:Same Hh Hh')(k:∀l o,s.own=true->v=some (some (.ref l))->H l=some o->H' l=some o):SvOk K Hh' H' v s:=by
 cases s with
 | un=>trivial
 | vl d=>obtain⟨x,e,r⟩:=h;exact⟨x,e,r.same g⟩
 | ow ds=>obtain⟨l,vs,e,a,r⟩:=h;exact⟨l,vs,e,k _ _ rfl e a,r.same g⟩
 | tp n=>obtain⟨t,c,ns,sp,lf,e,a,b,r⟩:=h;exact⟨t,c,ns,sp,lf,e,k _ _ rfl e a,g.seq b,r⟩
 | dk kvs=>obtain⟨t,ks,e,a,b,r⟩:=h;exact⟨t,ks,e,k _ _ rfl e a,b,r.same g⟩
 | dt kvs=>obtain⟨t,ks,e,a,b,r⟩:=h;exact⟨t,ks,e,k _ _ rfl e a,b,r.same g⟩
 | ex C fs=>obtain⟨t,od,e,a,b⟩:=h;exact⟨t,od,e,g _ _ a,b.same g⟩
 | sc ns=>obtain⟨c,e,a⟩:=h;exact⟨c,e,g.seq a⟩
 | px d C fs=>obtain⟨p,x,e,od,a,b,c,d',e'⟩:=h;exact⟨p,x,e,od,a,g _ _ b,c.same g,g _ _ d',e'.same g⟩
 | xl es=>obtain⟨p,vs,a,b,c⟩:=h;exact⟨p,vs,a,g _ _ b,c.same g⟩
theorem SvOk.alive {K:PySem.W.Frag}{Hh H:Hp}{v:Option (Option V)}{s:Sv}(h:SvOk K Hh H v s)(ho:s.own=true):∃l o,v=some (some (.ref l))/\H l=some o:=by
 cases s with
 | un=>cases ho
 | vl d=>cases ho
 | ow ds=>obtain⟨l,vs,e,a,r⟩:=h;exact⟨l,_,e,a⟩
 | tp n=>obtain⟨t,c,ns,sp,lf,e,a,b,r⟩:=h;exact⟨t,_,e,a⟩
 | dk kvs=>obtain⟨t,ks,e,a,b,r⟩:=h;exact⟨t,_,e,a⟩
 | dt kvs=>obtain⟨t,ks,e,a,b,r⟩:=h;exact⟨t,_,e,a⟩
 | ex C fs=>cases ho
 | sc ns=>cases ho
 | px d C fs=>cases ho
 | xl es=>cases ho
def Nt (H:Hp)(a:Addr):Prop:=H a≠none/\∀xs,H a≠some (.tup xs)
theorem c1f {H:Hp}{a l:Addr}{o:HO}(al:a≠l)(h:Nt H a):Nt (upd H l o) a:=by unfold Nt;rw[a0o al];exact h
structure Rel (K:PySem.W.Frag)(F:Fr)(σ:St)(ρ:En)(H:Hp):Prop where
 len:σ.length=ρ.length
 fr:∀a o,F.H0 a=some o->¬F.M a->H a=some o
 zl:∀a,F.Z a->Nt H a
 zo:∀a,b0c σ ρ a->¬F.Z a
 ow:∀i a,(gt ρ i).own=true->σ[i]? = some (some (.ref a))->(F.I i a/\F.M a)∨F.H0 a=none
 mi:∀i a,F.pin i a->σ[i]? = some (some (.ref a))
 ml:∀a,F.M a->F.H0 a≠none
 ma:∀a,F.M a->H a≠none
 nd:∀i j a,(gt ρ i).own=true->(gt ρ j).own=true->σ[i]? = some (some (.ref a))->σ[j]? = some (some (.ref a))->i=j
 sl:∀i,SvOk K (hid H (hs F σ ρ)) H σ[i]? (gt ρ i)
structure Kp (σ:St)(ρ ρ':En)(H H':Hp):Prop where
 st:∀a o,H a=some o->¬b0c σ ρ a->H' a=some o
 sb:∀i,(gt ρ' i).own=true->(gt ρ i).own=true
theorem Kp.so {σ:St}{ρ ρ':En}{H H':Hp}(k:Kp σ ρ ρ' H H'){a:Addr}(h:b0c σ ρ' a):b0c σ ρ a:=by
 obtain⟨i,hi,e⟩:=h
 exact⟨i,k.sb i hi,e⟩
theorem Kp.refl {σ:St}{ρ:En}{H:Hp}:Kp σ ρ ρ H H:=⟨fun _ _ e _=>e,fun _ h=>h⟩
theorem Kp.trans {σ:St}{ρ ρ1 ρ2:En}{H H1 H2:Hp}(a:Kp σ ρ ρ1 H H1)(b:Kp σ ρ1 ρ2 H1 H2):Kp σ ρ ρ2 H H2 :=
 ⟨fun x o e n=>b.st x o (a.st x o e n) fun z=>n (a.so z),fun x z=>a.sb x (b.sb x z)⟩
theorem Kp.fresh {σ:St}{ρ:En}{H:Hp}{l:Addr}{o:HO}(h:H l=none):Kp σ ρ ρ H (upd H l o) :=
 ⟨fun a u e _=>by rw[a0o (a0t e h)];exact e,fun _ h=>h⟩
section
variable {K:PySem.W.Frag}{F:Fr}{σ:St}{ρ ρ':En}{H H':Hp}
theorem e0i (r:Rel K F σ ρ H){a:Addr}(h:b0c σ ρ a):H a≠none:=by
 obtain⟨i,hi,e⟩:=h
 obtain⟨l,o,e',h'⟩:=(r.sl i).alive hi
 rw[e]at e';injection e' with e';injection e' with e';injection e' with e'
 rw[e',h'];exact fun z=>nomatch z
theorem w0l (r:Rel K F σ ρ H){a:Addr}(h:hs F σ ρ a):H a≠none:=by
 rcases h with h | h
 ·exact(r.zl a h).1
 ·exact e0i r h
theorem SvOk.nt {K:PySem.W.Frag}{Hh H:Hp}{v:Option (Option V)}{s:Sv}(h:SvOk K Hh H v s)(ho:s.own=true):∃l,v=some (some (.ref l))/\Nt H l:=by
 cases s with
 | un=>cases ho
 | vl d=>cases ho
 | ow ds=>obtain⟨l,vs,e,a,r⟩:=h;exact⟨l,e,by rw[a];exact(fun z=>nomatch z),by rw[a];exact fun _ z=>nomatch z⟩
 | tp n=>obtain⟨l,c,ns,sp,lf,e,a,b,r⟩:=h;exact⟨l,e,by rw[a];exact(fun z=>nomatch z),by rw[a];exact fun _ z=>nomatch z⟩
 | dk kvs=>obtain⟨l,ks,e,a,b,r⟩:=h;exact⟨l,e,by rw[a];exact(fun z=>nomatch z),by rw[a];exact fun _ z=>nomatch z⟩
 | dt kvs=>obtain⟨l,ks,e,a,b,r⟩:=h;exact⟨l,e,by rw[a];exact(fun z=>nomatch z),by rw[a];exact fun _ z=>nomatch z⟩
 | ex C fs=>cases ho
 | sc ns=>cases ho
 | px d C fs=>cases ho
 | xl es=>cases ho
theorem l0g (r:Rel K F σ ρ H){a:Addr}(h:b0c σ ρ a):Nt H a:=by
 obtain⟨i,hi,e⟩:=h
 obtain⟨l,e',h'⟩:=(r.sl i).nt hi
 rw[e]at e';injection e' with e';injection e' with e';injection e' with e'
 rw[e'];exact h'
theorem w0k (r:Rel K F σ ρ H){a:Addr}(h:hs F σ ρ a):Nt H a:=by
 rcases h with h | h
 ·exact r.zl a h
 ·exact l0g r h
theorem i0v (r:Rel K F σ ρ H){l:Addr}(h:H l=none):¬hs F σ ρ l:=fun z=>w0l r z h
theorem w0n (r:Rel K F σ ρ H){l:Addr}(h:H l=none):F.H0 l=none:=by
 cases h0:F.H0 l with
 | none=>rfl
 | some o =>
  by_cases q:F.M l
  ·exact absurd h (r.ma l q)
  ·have:=r.fr l o h0 q
   rw[h]at this;cases this
theorem Kp.vis (k:Kp σ ρ ρ' H H'):Same (hid H (hs F σ ρ)) (hid H' (hs F σ ρ')):=a0y fun a o e n =>
 ⟨k.st a o e fun z=>n (.inr z),fun z=>by
  rcases z with z | z
  ·exact n (.inl z)
  ·exact n (.inr (k.so z))⟩
theorem k0g {a:Addr}(g:Same H H')(h:H a≠none):H' a≠none:=fun e=>by
 cases h':H a with
 | none=>exact h h'
 | some o=>rw[g a o h']at e;cases e
theorem u0h {a:Addr}(g:Same H H')(h:Nt H a):Nt H' a:=by
 cases h':H a with
 | none=>exact(h.1 h').elim
 | some o =>
  have e:=g a o h'
  unfold Nt
  rw[e,<- h'];exact h
theorem Rel.grow (r:Rel K F σ ρ H)(g:Same H H'):Rel K F σ ρ H' where
 len:=r.len
 fr:=fun a o e n=>g a o (r.fr a o e n)
 zl:=fun a z=>u0h g (r.zl a z)
 zo:=r.zo
 ow:=r.ow
 mi:=r.mi
 ml:=r.ml
 ma:=fun a z=>k0g g (r.ma a z)
 nd:=r.nd
 sl:=fun i=>(r.sl i).keep (a0y fun a o e n=>⟨g a o e,n⟩) fun l o _ _ e=>g l o e
theorem Rel.fresh (r:Rel K F σ ρ H){l:Addr}{o:HO}(h:H l=none):Rel K F σ ρ (upd H l o):=r.grow ((Same.refl H).new h)
theorem t0d:∀(ρ:En) (i:Nat) (s:Sv),ρ.length<=i->pt ρ i s=ρ
 | [],_,_,_=>rfl
 | x::r,0,s,h=>by simp at h
 | x::r,i+1,s,h=>by simp[pt,t0d r i s (by simpa using h)]
theorem f0w {i j:Nat}{s:Sv}(hs:s.own=false)(hj:(gt (pt ρ i s) j).own=true):i≠j/\(gt ρ j).own=true:=by
 by_cases ij:i=j
 ·subst ij
  rcases Nat.lt_or_ge i ρ.length with q | q
  ·rw[h0r ρ i s q,hs]at hj;cases hj
  ·rw[g0o _ i (by rw[d0s];exact q)]at hj;cases hj
 ·rw[b0g ρ i j s ij]at hj
  exact⟨ij,hj⟩
theorem Rel.setS (r:Rel K F σ ρ H){i:Nat}{v:V}{s:Sv}(hs':s.own=false)(hd:SvOk K (hid H (hs F σ ρ)) H (some (some v)) s)(hm:∀a,¬F.pin i a):Rel K F (σ.set i (some v)) (pt ρ i s) H:=by
 rcases Nat.lt_or_ge i ρ.length with hi | hi
 case inr =>
  rw[t0d ρ i s hi,List.set_eq_of_length_le (by rw[r.len];exact hi)];exact r
 have sub:∀a,b0c (σ.set i (some v)) (pt ρ i s) a->b0c σ ρ a:=fun a ⟨j,hj,e⟩=>by
  obtain⟨ij,hj⟩:=f0w hs' hj
  rw[List.getElem?_set_ne ij]at e
  exact⟨j,hj,e⟩
 have vis:Same (hid H (hs F σ ρ)) (hid H (hs F (σ.set i (some v)) (pt ρ i s))):=a0y fun a o e n=>⟨e,fun z=>n (z.imp id (sub a))⟩
 refine⟨by rw[List.length_set,d0s,r.len],r.fr,r.zl,fun a h=>r.zo a (sub a h),fun j a hj e=>?_,fun j a h=>?_,r.ml,r.ma,fun j k a hj hk ej ek=>?_,fun j=>?_⟩
 ·obtain⟨ij,hj⟩:=f0w hs' hj
  rw[List.getElem?_set_ne ij]at e
  exact r.ow j a hj e
 ·have:i≠j:=fun e=>hm a (e▸h)
  rw[List.getElem?_set_ne this];exact r.mi j a h
 ·obtain⟨nj,hj⟩:=f0w hs' hj
  obtain⟨nk,hk⟩:=f0w hs' hk
  rw[List.getElem?_set_ne nj]at ej
  rw[List.getElem?_set_ne nk]at ek
  exact r.nd j k a hj hk ej ek
 ·by_cases ij:i=j
  ·subst ij
   rw[h0r ρ i _ hi,List.getElem?_set_self (by rw[r.len];exact hi)]
   exact hd.keep vis fun l o ho=>by rw[hs']at ho;cases ho
  ·rw[b0g ρ i j _ ij,List.getElem?_set_ne ij]
   exact(r.sl j).keep vis fun l o _ _ e=>e
theorem Rel.set (r:Rel K F σ ρ H){i:Nat}{v:V}{d:D}(hd:RepD K (hid H (hs F σ ρ)) v d)(hm:∀a,¬F.pin i a):Rel K F (σ.set i (some v)) (pt ρ i (.vl d)) H :=
 r.setS rfl ⟨v,rfl,hd⟩ hm
theorem Rel.setF (r:Rel K F σ ρ H){i:Nat}{l:Addr}{o:HO}{s:Sv}(hs':s.own=true)(hd:SvOk K (hid H (hs F σ ρ)) (upd H l o) (some (some (.ref l))) s)(hn:H l=none)(hm:∀a,¬F.pin i a) :
  Rel K F (σ.set i (some (.ref l))) (pt ρ i s) (upd H l o):=by
 have rf:=r.fresh (o:=o) hn
 rcases Nat.lt_or_ge i ρ.length with hi | hi
 case inr =>
  rw[t0d ρ i s hi,List.set_eq_of_length_le (by rw[r.len];exact hi)];exact rf
 have at1:∀ {a},(σ.set i (some (V.ref l)))[i]? = some (some (.ref a))->a=l:=fun e=>by
  rw[List.getElem?_set_self (by rw[r.len];exact hi)]at e
  injection e with e;injection e with e;injection e with e
  exact e.symm
 have sub:∀a,b0c (σ.set i (some (.ref l))) (pt ρ i s) a->b0c σ ρ a∨a=l:=fun a h=>by
  obtain⟨j,hj,e⟩:=h
  by_cases ij:i=j
  ·subst ij;exact .inr (at1 e)
  ·rw[b0g ρ i j _ ij]at hj
   rw[List.getElem?_set_ne ij]at e
   exact .inl ⟨j,hj,e⟩
 have vis:Same (hid H (hs F σ ρ)) (hid (upd H l o) (hs F (σ.set i (some (.ref l))) (pt ρ i s))):=a0y fun a u e n=>by
  have al:=a0t e hn
  refine⟨by rw[a0o al];exact e,fun z=>?_⟩
  rcases z with z | z
  ·exact n (.inl z)
  ·rcases sub a z with z | z
   ·exact n (.inr z)
   ·exact al z
 have nol:∀j,(gt ρ j).own=true->σ[j]? ≠ some (some (.ref l)):=fun j hj e=>e0i r ⟨j,hj,e⟩ hn
 refine⟨by rw[List.length_set,d0s,r.len],rf.fr,rf.zl,fun a h=>?_,fun j a hj e=>?_,fun j a h=>?_,r.ml,rf.ma,fun j k a hj hk ej ek=>?_,fun j=>?_⟩
 ·rcases sub a h with h | h
  ·exact r.zo a h
  ·subst h;exact fun z=>(r.zl _ z).1 hn
 ·by_cases ij:i=j
  ·subst ij
   rw[at1 e];exact .inr (w0n r hn)
  ·rw[b0g ρ i j _ ij]at hj
   rw[List.getElem?_set_ne ij]at e
   exact r.ow j a hj e
 ·have:i≠j:=fun e=>hm a (e▸h)
  rw[List.getElem?_set_ne this];exact r.mi j a h
 ·by_cases nj:i=j
  ·by_cases nk:i=k
   ·omega
   ·subst nj
    have:=at1 ej
    subst this
    rw[b0g ρ i k _ nk]at hk
    rw[List.getElem?_set_ne nk]at ek
    exact absurd ek (nol k hk)
  ·rw[b0g ρ i j _ nj]at hj
   rw[List.getElem?_set_ne nj]at ej
   by_cases nk:i=k
   ·subst nk
    have:=at1 ek
    subst this
    exact absurd ej (nol j hj)
   ·rw[b0g ρ i k _ nk]at hk
    rw[List.getElem?_set_ne nk]at ek
    exact r.nd j k a hj hk ej ek
 ·by_cases ij:i=j
  ·subst ij
   rw[h0r ρ i _ hi,List.getElem?_set_self (by rw[r.len];exact hi)]
   exact hd.keep vis fun _ _ _ _ e=>e
  ·rw[b0g ρ i j _ ij,List.getElem?_set_ne ij]
   exact(r.sl j).keep vis fun a o ho e h=>by
    rw[a0o (a0t h hn)];exact h
theorem Rel.write (r:Rel K F σ ρ H){i:Nat}{l:Addr}{o:HO}{s:Sv}(hi:(gt ρ i).own=true)(el:σ[i]? = some (some (.ref l)))(hs':s.own=true)(new:SvOk K (hid H (hs F σ ρ)) (upd H l o) (some (some (.ref l))) s):Rel K F σ (pt ρ i s) (upd H l o)/\Kp σ ρ (pt ρ i s) H (upd H l o):=by
 have lt:=k0b hi
 have own':∀j,(gt (pt ρ i s) j).own=true->(gt ρ j).own=true:=fun j h=>by
  by_cases ij:i=j
  ·subst ij;exact hi
  ·rw[b0g ρ i j _ ij]at h;exact h
 have sub:∀a,b0c σ (pt ρ i s) a->b0c σ ρ a:=fun a ⟨j,hj,e⟩=>⟨j,own' j hj,e⟩
 have hso:b0c σ ρ l:=⟨i,hi,el⟩
 have vis:Same (hid H (hs F σ ρ)) (hid (upd H l o) (hs F σ (pt ρ i s))):=a0y fun a u e n=>by
  have al:a≠l:=fun z=>n (.inr (z▸hso))
  exact⟨by rw[a0o al];exact e,fun z=>n (z.imp id (sub a))⟩
 have up:∀ {a},H a≠none->(upd H l o) a≠none:=fun{a} h e=>by
  by_cases al:a=l
  ·subst al;rw[b0i]at e;cases e
  ·rw[a0o al]at e;exact h e
 refine⟨⟨by rw[d0s,r.len],fun a u e n=>?_,fun a z=>c1f (fun q=>r.zo l hso (q▸z)) (r.zl a z),fun a h=>r.zo a (sub a h),fun j a hj e=>r.ow j a (own' j hj) e,r.mi,r.ml,fun a z=>up (r.ma a z),fun j k a hj hk ej ek=>r.nd j k a (own' j hj) (own' k hk) ej ek,fun j=>?_⟩,⟨fun a u e n=>?_,own'⟩⟩
 ·have al:a≠l:=fun z=>by
   subst z
   rcases r.ow i _ hi el with⟨_,q⟩ | q
   ·exact n q
   ·rw[e]at q;cases q
  rw[a0o al];exact r.fr a u e n
 ·by_cases ij:i=j
  ·subst ij
   rw[h0r ρ i s lt,el]
   exact new.keep vis fun _ _ _ _ e=>e
  ·rw[b0g ρ i j _ ij]
   refine(r.sl j).keep vis fun a u ho e h=>?_
   have al:a≠l:=fun z=>ij (r.nd i j l hi ho el (z▸e))
   rw[a0o al];exact h
 ·have al:a≠l:=fun z=>n (z▸hso)
  rw[a0o al];exact e
theorem Rel.frz (r:Rel K F σ ρ H){i:Nat}{ds:List D}(hi:gt ρ i = .ow ds):∃l,σ[i]? = some (some (.ref l))/\Rel K F σ (pt ρ i (.vl (.lst ds))) H/\Kp σ ρ (pt ρ i (.vl (.lst ds))) H H/\RepD K (hid H (hs F σ (pt ρ i (.vl (.lst ds))))) (.ref l) (.lst ds):=by
 have ho:(gt ρ i).own=true:=by rw[hi];rfl
 have lt:=k0b ho
 have q:=r.sl i
 rw[hi]at q
 obtain⟨l,vs,el,hl,hd⟩:=q
 have own':∀j,(gt (pt ρ i (.vl (.lst ds))) j).own=true->i≠j/\(gt ρ j).own=true:=fun j h=>f0w rfl h
 have sub:∀a,b0c σ (pt ρ i (.vl (.lst ds))) a->b0c σ ρ a/\a≠l:=fun a ⟨j,hj,e⟩=>by
  obtain⟨ij,hj⟩:=own' j hj
  exact⟨⟨j,hj,e⟩,fun z=>ij (r.nd i j l ho hj el (z▸e))⟩
 have vis:Same (hid H (hs F σ ρ)) (hid H (hs F σ (pt ρ i (.vl (.lst ds))))):=a0y fun a u e n=>⟨e,fun z=>n (z.imp id fun z=>(sub a z).1)⟩
 have vl:¬hs F σ (pt ρ i (.vl (.lst ds))) l:=fun z=>by
  rcases z with z | z
  ·exact r.zo l ⟨i,ho,el⟩ z
  ·exact(sub l z).2 rfl
 have rd:RepD K (hid H (hs F σ (pt ρ i (.vl (.lst ds))))) (.ref l) (.lst ds):=by
  unfold RepD
  exact⟨l,vs,rfl,f0r vl hl,hd.same vis⟩
 refine⟨l,el,⟨by rw[d0s,r.len],r.fr,r.zl,fun a h=>r.zo a (sub a h).1,fun j a hj e=>r.ow j a (own' j hj).2 e,r.mi,r.ml,r.ma,fun j k a hj hk ej ek=>r.nd j k a (own' j hj).2 (own' k hk).2 ej ek,fun j=>?_⟩,⟨fun _ _ e _=>e,fun j h=>(own' j h).2⟩,rd⟩
 by_cases ij:i=j
 ·subst ij
  rw[h0r ρ i _ lt,el]
  exact⟨_,rfl,rd⟩
 ·rw[b0g ρ i j _ ij]
  exact(r.sl j).keep vis fun a u _ _ h=>h
end
def RelR (K:PySem.W.Frag)(F:Fr)(σ:St)(ρ:En)(v:V)(H:Hp):R->Prop
 | .d d=>Rel K F σ ρ H/\RepD K (hid H (hs F σ ρ)) v d
 | .o i=>Rel K F σ ρ H/\σ[i]? = some (some v)
 | .n s=>∃Hb l o,Rel K F σ ρ Hb/\s.own=true/\SvOk K (hid Hb (hs F σ ρ)) (upd Hb l o) (some (some (.ref l))) s/\Hb l=none/\H=upd Hb l o/\v = .ref l
 | .t n=>Rel K F σ ρ H/\v = .ty n
 | .x s=>Rel K F σ ρ H/\s.own=false/\SvOk K (hid H (hs F σ ρ)) H (some (some v)) s
def Out (K:PySem.W.Frag)(F:Fr)(σ:St)(ρ:En)(H:Hp)(ρ':En)(v:V)(H':Hp):R->Prop
 | .d d=>Rel K F σ ρ' H'/\Kp σ ρ ρ' H H'/\RepD K (hid H' (hs F σ ρ')) v d
 | .o i=>Rel K F σ ρ' H'/\Kp σ ρ ρ' H H'/\σ[i]? = some (some v)
 | .n s=>∃Hb l o,Rel K F σ ρ' Hb/\Kp σ ρ ρ' H Hb/\s.own=true/\SvOk K (hid Hb (hs F σ ρ')) (upd Hb l o) (some (some (.ref l))) s/\Hb l=none/\H'=upd Hb l o/\v = .ref l
 | .t n=>Rel K F σ ρ' H'/\Kp σ ρ ρ' H H'/\v = .ty n
 | .x s=>Rel K F σ ρ' H'/\Kp σ ρ ρ' H H'/\s.own=false/\SvOk K (hid H' (hs F σ ρ')) H' (some (some v)) s
def InF (K:PySem.W.Frag)(F:Fr)(σ:St)(ρ:En)(H:Hp)(v:V):R->Prop
 | .d d=>RepD K (hid H (hs F σ ρ)) v d
 | .o i=>σ[i]? = some (some v)
 | .n _=>True
 | .t n=>v = .ty n
 | .x s=>s.own=false/\SvOk K (hid H (hs F σ ρ)) H (some (some v)) s
def R.frz:R->R
 | .n (.ow ds)=>.d (.lst ds)
 | r=>r
inductive InFs (K:PySem.W.Frag) (F:Fr) (σ:St) (ρ:En) (H:Hp):List V->List R->Prop
 | nil:InFs K F σ ρ H [] []
 | cons {v:V} {r:R} {vs:List V} {rs:List R}:InF K F σ ρ H v r->InFs K F σ ρ H vs rs->InFs K F σ ρ H (v::vs) (r::rs)
def view (ρ:En):R->Option D
 | .d d=>some d
 | .o i=>(match gt ρ i with | .ow ds=>some (.lst ds) | .vl d=>some d | _=>none)
 | _=>none
section
variable {K:PySem.W.Frag}{F:Fr}{σ:St}{ρ ρ':En}{H H':Hp}{v:V}{r:R}
theorem InF.keep (h:InF K F σ ρ H v r)(k:Kp σ ρ ρ' H H'):InF K F σ ρ' H' v r:=by
 cases r with
 | d d=>exact RepD.same h k.vis
 | o i=>exact h
 | n s=>exact h
 | t n=>exact h
 | x s=>exact⟨h.1,h.2.keep k.vis fun l o ho=>by rw[h.1]at ho;cases ho⟩
theorem InFs.keep {vs:List V}{rs:List R}(h:InFs K F σ ρ H vs rs)(k:Kp σ ρ ρ' H H'):InFs K F σ ρ' H' vs rs:=by
 induction h with
 | nil=>exact .nil
 | cons a _ ih=>exact .cons (a.keep k) ih
theorem Out.inF (h:Out K F σ ρ H ρ' v H' r):Rel K F σ ρ' H'/\Kp σ ρ ρ' H H'/\InF K F σ ρ' H' v r.frz:=by
 cases r with
 | d d=>exact⟨h.1,h.2.1,h.2.2⟩
 | o i=>exact⟨h.1,h.2.1,h.2.2⟩
 | t n=>exact⟨h.1,h.2.1,h.2.2⟩
 | x s=>exact⟨h.1,h.2.1,h.2.2⟩
 | n s =>
  obtain⟨Hb,l,o,a,k0,hs',b,c,rfl,rfl⟩:=h
  have k:Kp σ ρ' ρ' Hb (upd Hb l o):=Kp.fresh c
  refine⟨a.fresh c,k0.trans k,?_⟩
  cases s with
  | un=>trivial
  | vl d=>trivial
  | tp n=>trivial
  | dk n=>trivial
  | dt n=>trivial
  | ex n m=>trivial
  | sc n=>trivial
  | px n m k=>trivial
  | xl es=>trivial
  | ow ds =>
   obtain⟨l',vs,e,h1,h2⟩:=b
   injection e with e;injection e with e;injection e with e;subst e
   show RepD K _ (.ref l) (.lst ds)
   unfold RepD
   exact⟨l,vs,rfl,f0r (i0v a c) h1,h2.same k.vis⟩
theorem Out.rel (h:Out K F σ ρ H ρ' v H' r):RelR K F σ ρ' v H' r:=by
 cases r with
 | d d=>exact⟨h.1,h.2.2⟩
 | o i=>exact⟨h.1,h.2.2⟩
 | t n=>exact⟨h.1,h.2.2⟩
 | x s=>exact⟨h.1,h.2.2⟩
 | n s =>
  obtain⟨Hb,l,o,a,k0,hs',b,c,e1,e2⟩:=h
  exact⟨Hb,l,o,a,hs',b,c,e1,e2⟩
theorem Out.after {ρ1:En}{H1:Hp}(k:Kp σ ρ ρ1 H H1)(h:Out K F σ ρ1 H1 ρ' v H' r):Out K F σ ρ H ρ' v H' r:=by
 cases r with
 | d d=>exact⟨h.1,k.trans h.2.1,h.2.2⟩
 | o i=>exact⟨h.1,k.trans h.2.1,h.2.2⟩
 | t n=>exact⟨h.1,k.trans h.2.1,h.2.2⟩
 | x s=>exact⟨h.1,k.trans h.2.1,h.2.2⟩
 | n s =>
  obtain⟨Hb,l,o,a,k0,hs',b,c,e1,e2⟩:=h
  exact⟨Hb,l,o,a,k.trans k0,hs',b,c,e1,e2⟩
theorem d0f {d:D}(a:Rel K F σ ρ H)(h:InF K F σ ρ H v r)(e:view ρ r=some d):RepD K H v d:=by
 cases r with
 | d d'=>injection e with e;subst e;exact RepD.same h b0m
 | t n=>cases e
 | x s=>cases e
 | n s=>cases e
 | o i =>
  have q:=a.sl i
  unfold view at e
  cases hg:gt ρ i with
  | un=>simp[hg]at e
  | tp n=>simp[hg]at e
  | dk n=>simp[hg]at e
  | dt n=>simp[hg]at e
  | ex n m=>simp[hg]at e
  | sc n=>simp[hg]at e
  | px n m k=>simp[hg]at e
  | xl es=>simp[hg]at e
  | vl d' =>
   simp[hg]at e
   subst e
   rw[hg]at q
   obtain⟨x,e1,r1⟩:=q
   rw[show σ[i]? = _ from h]at e1
   injection e1 with e1;injection e1 with e1;subst e1
   exact r1.same b0m
  | ow ds =>
   simp[hg]at e
   subst e
   rw[hg]at q
   obtain⟨l,vs,e1,r1,r2⟩:=q
   rw[show σ[i]? = _ from h]at e1
   injection e1 with e1;injection e1 with e1;subst e1
   unfold RepD
   exact⟨l,vs,rfl,r1,r2.same b0m⟩
theorem c0d {ds:List D}(a:Rel K F σ ρ H)(h:InF K F σ ρ H v r)(e:view ρ r=some (.lst ds)):∃l vs,v = .ref l/\SqL K H l vs/\RepDs K (hid H (hs F σ ρ)) vs ds:=by
 cases r with
 | d d' =>
  injection e with e;subst e
  have h':RepD K _ v (.lst ds):=h
  unfold RepD at h'
  obtain⟨l,vs,e,q,r⟩:=h'
  exact⟨l,vs,e,b0m.seq (StL.sq q),r⟩
 | t n=>cases e
 | x s=>cases e
 | n s=>cases e
 | o i =>
  have q:=a.sl i
  unfold view at e
  cases hg:gt ρ i with
  | un=>simp[hg]at e
  | tp n=>simp[hg]at e
  | dk n=>simp[hg]at e
  | dt n=>simp[hg]at e
  | ex n m=>simp[hg]at e
  | sc n=>simp[hg]at e
  | px n m k=>simp[hg]at e
  | xl es=>simp[hg]at e
  | vl d' =>
   simp[hg]at e
   subst e
   rw[hg]at q
   obtain⟨x,e1,r1⟩:=q
   rw[show σ[i]? = _ from h]at e1
   injection e1 with e1;injection e1 with e1;subst e1
   unfold RepD at r1
   obtain⟨l,vs,e,q,r⟩:=r1
   exact⟨l,vs,e,b0m.seq (StL.sq q),r⟩
  | ow ds =>
   simp[hg]at e
   subst e
   rw[hg]at q
   obtain⟨l,vs,e1,r1,r2⟩:=q
   rw[show σ[i]? = _ from h]at e1
   injection e1 with e1;injection e1 with e1;subst e1
   exact⟨l,vs,rfl,SqL.of r1,r2⟩
theorem f0f {ds:List D}(a:Rel K F σ ρ H)(h:InF K F σ ρ H v r)(e:view ρ r=some (.tup ds)):∃l vs,v = .ref l/\SqT K H l vs/\RepDs K (hid H (hs F σ ρ)) vs ds/\StT (hid H (hs F σ ρ)) l vs:=by
 have go:∀ {x:V},RepD K (hid H (hs F σ ρ)) x (.tup ds)->∃l vs,x = .ref l/\SqT K H l vs/\RepDs K (hid H (hs F σ ρ)) vs ds/\StT (hid H (hs F σ ρ)) l vs:=fun h'=>by
  unfold RepD at h'
  obtain⟨l,vs,e,q,r⟩:=h'
  exact⟨l,vs,e,b0m.seqT q.sq,r,q⟩
 cases r with
 | d d'=>injection e with e;subst e;exact go h
 | t n=>cases e
 | x s=>cases e
 | n s=>cases e
 | o i =>
  have q:=a.sl i
  unfold view at e
  cases hg:gt ρ i with
  | un=>simp[hg]at e
  | tp n=>simp[hg]at e
  | dk n=>simp[hg]at e
  | dt n=>simp[hg]at e
  | ex n m=>simp[hg]at e
  | sc n=>simp[hg]at e
  | px n m k=>simp[hg]at e
  | xl es=>simp[hg]at e
  | ow ds'=>simp[hg]at e
  | vl d' =>
   simp[hg]at e
   subst e
   rw[hg]at q
   obtain⟨x,e1,r1⟩:=q
   rw[show σ[i]? = _ from h]at e1
   injection e1 with e1;injection e1 with e1;subst e1
   exact go r1
end
abbrev Ko:=R->En->Prop
abbrev AE:=En->Ko->Prop
abbrev AT:=En->(Bool->En->Prop)->Prop
abbrev AA:=En->(List R->En->Prop)->Prop
structure o0f where
 nx:En->Prop
 rt:R->En->Prop
 bk:En->Prop
 ct:En->Prop
abbrev AS:=o0f->En->Prop
def Beh (K:PySem.W.Frag)(F:Fr)(σ:St)(ρ:En)(H:Hp)(q:Ko)(Q:VK):Prop:=∀r ρ' v H',q r ρ'->Out K F σ ρ H ρ' v H' r->Q v H'
def TEok (K:PySem.W.Frag)(t:TE)(a:AE):Prop:=∀F σ ρ H q Q,Rel K F σ ρ H->a ρ q->Beh K F σ ρ H q Q->t σ H Q
def TTok (K:PySem.W.Frag)(t:TT)(a:AT):Prop:=∀F σ ρ H q Q,Rel K F σ ρ H->a ρ q->(∀b ρ' H',q b ρ'->Rel K F σ ρ' H'->Kp σ ρ ρ' H H'->Q b H')->t σ H Q
def TAok (K:PySem.W.Frag)(t:TA)(a:AA):Prop:=∀F σ ρ H q Q,Rel K F σ ρ H->a ρ q->(∀rs ρ' vs H',q rs ρ'->Rel K F σ ρ' H'->InFs K F σ ρ' H' vs rs->Kp σ ρ ρ' H H'->Q vs H')->t σ H Q
def OpOk (K:PySem.W.Frag)(r:R2)(g:R->R->AE):Prop:=∀F σ ρ H x y r1 r2 q Q,Rel K F σ ρ H->InF K F σ ρ H x r1->InF K F σ ρ H y r2->g r1 r2 ρ q->Beh K F σ ρ H q Q->r x y H Q
def CbOk (K:PySem.W.Frag)(r:List V->Hp->VK->Prop)(g:List R->AE):Prop:=∀F σ ρ H vs rs q Q,Rel K F σ ρ H->InFs K F σ ρ H vs rs->g rs ρ q->Beh K F σ ρ H q Q->r vs H Q
section
variable {K:PySem.W.Frag}{F:Fr}{σ:St}{ρ ρ':En}{H H':Hp}{v:V}{r:R}{q:Ko}{Q:VK}
theorem Beh.dat (b:Beh K F σ ρ H q Q)(a:Rel K F σ ρ H){d:D}(hq:q (.d d) ρ)(h:RepD K (hid H (hs F σ ρ)) v d):Q v H:=b (.d d) ρ v H hq ⟨a,.refl,h⟩
theorem Beh.int (b:Beh K F σ ρ H q Q)(a:Rel K F σ ρ H){i:Int}(hq:q (.d (.int i)) ρ):Q (.int i) H:=b.dat a hq (by unfold RepD;rfl)
theorem Beh.bl (b:Beh K F σ ρ H q Q)(a:Rel K F σ ρ H){i:Bool}(hq:q (.d (.bl i)) ρ):Q (.bl i) H:=b.dat a hq (by unfold RepD;rfl)
theorem Beh.non (b:Beh K F σ ρ H q Q)(a:Rel K F σ ρ H)(hq:q (.d .non) ρ):Q .non H:=b.dat a hq (by unfold RepD;rfl)
theorem Beh.str (b:Beh K F σ ρ H q Q)(a:Rel K F σ ρ H){x:Str}(hq:q (.d (.str x)) ρ):Q (.str x) H:=b.dat a hq (by unfold RepD;rfl)
theorem Beh.new (b:Beh K F σ ρ H q Q)(a:Rel K F σ ρ H){ds:List D}{vs:List V}{l:Addr}(hq:q (.f ds) ρ)(hd:RepDs K (hid H (hs F σ ρ)) vs ds)(hl:H l=none):Q (.ref l) (upd H l (.lst vs)) :=
 b (.f ds) ρ _ _ hq ⟨H,l,_,a,.refl,rfl,⟨l,vs,rfl,b0i,hd⟩,hl,rfl,rfl⟩
theorem Beh.newT (b:Beh K F σ ρ H q Q)(a:Rel K F σ ρ H){ds:List D}{vs:List V}{l:Addr}(hq:q (.d (.tup ds)) ρ)(hd:RepDs K (hid H (hs F σ ρ)) vs ds)(hl:H l=none):Q (.ref l) (upd H l (.tup vs)):=by
 have k:Kp σ ρ ρ H (upd H l (.tup vs)):=Kp.fresh hl
 refine b (.d (.tup ds)) ρ _ _ hq ⟨a.fresh hl,k,?_⟩
 unfold RepD
 exact⟨l,vs,rfl,(f0r (i0v a hl) b0i),hd.same k.vis⟩
theorem Beh.after {ρ1:En}{H1:Hp}(b:Beh K F σ ρ H q Q)(k:Kp σ ρ ρ1 H H1):Beh K F σ ρ1 H1 q Q:=fun r ρ' v H' hq h=>b r ρ' v H' hq (.after k h)
def aVar (i:Nat):AE:=fun ρ q=>match gt ρ i with
 | .un=>False
 | .vl d=>q (.d d) ρ
 | .ow _=>q (.o i) ρ
 | .tp _=>q (.o i) ρ
 | .dk _=>q (.o i) ρ
 | .dt _=>q (.o i) ρ
 | .ex _ _=>q (.o i) ρ
 | .sc _=>q (.o i) ρ
 | .px _ _ _=>q (.o i) ρ
 | .xl _=>q (.o i) ρ
theorem a0b {i:Nat}:TEok K (tVar i) (aVar i):=by
 intro F σ ρ H q Q a h b
 have s:=a.sl i
 unfold aVar at h
 cases hg:gt ρ i with
 | un=>rw[hg]at h;exact h.elim
 | vl d =>
  rw[hg]at h s
  obtain⟨x,e,r⟩:=s
  exact⟨x,e,b _ _ _ _ h ⟨a,.refl,r⟩⟩
 | ow ds =>
  rw[hg]at h s
  obtain⟨l,vs,e,_⟩:=s
  exact⟨_,e,b _ _ _ _ h ⟨a,.refl,e⟩⟩
 | tp n =>
  rw[hg]at h s
  obtain⟨l,c,ns,sp,lf,e,_⟩:=s
  exact⟨_,e,b _ _ _ _ h ⟨a,.refl,e⟩⟩
 | dk kvs =>
  rw[hg]at h s
  obtain⟨l,ks,e,_⟩:=s
  exact⟨_,e,b _ _ _ _ h ⟨a,.refl,e⟩⟩
 | dt kvs =>
  rw[hg]at h s
  obtain⟨l,ks,e,_⟩:=s
  exact⟨_,e,b _ _ _ _ h ⟨a,.refl,e⟩⟩
 | ex C fs =>
  rw[hg]at h s
  obtain⟨l,ks,e,_⟩:=s
  exact⟨_,e,b _ _ _ _ h ⟨a,.refl,e⟩⟩
 | sc ns =>
  rw[hg]at h s
  obtain⟨l,e,_⟩:=s
  exact⟨_,e,b _ _ _ _ h ⟨a,.refl,e⟩⟩
 | xl es =>
  rw[hg]at h s
  obtain⟨l,ks,e,_⟩:=s
  exact⟨_,e,b _ _ _ _ h ⟨a,.refl,e⟩⟩
 | px d C fs =>
  rw[hg]at h s
  obtain⟨l,x,e',od,e,_⟩:=s
  exact⟨_,e,b _ _ _ _ h ⟨a,.refl,e⟩⟩
def aC (r:R):AE:=fun ρ q=>q r ρ
theorem a0m {i:Int}:TEok K (tC (.int i)) (aC (.d (.int i))):=fun _ _ _ _ _ _ a h b=>b.int a h
theorem s0i {i:Bool}:TEok K (tC (.bl i)) (aC (.d (.bl i))):=fun _ _ _ _ _ _ a h b=>b.bl a h
theorem k0u {i:Str}:TEok K (tC (.str i)) (aC (.d (.str i))):=fun _ _ _ _ _ _ a h b=>b.str a h
theorem s0e {n:String}:TEok K (tC (.ty n)) (aC (.t n)):=fun _ _ _ _ _ _ a h b=>b _ _ _ _ h ⟨a,.refl,rfl⟩
def aOp (g:R->R->AE)(a b:AE):AE:=fun ρ q=>a ρ fun r1 ρ1=>b ρ1 fun r2 ρ2=>g r1.frz r2.frz ρ2 q
variable {t t' ta tb tc:TE}{a b c:AE}{rr:R2}{g:R->R->AE}
theorem a0k (ho:OpOk K rr g)(ha:TEok K ta a)(hb:TEok K tb b):TEok K (tOp rr ta tb) (aOp g a b):=by
 intro F σ ρ H q Q r h k
 refine ha F σ ρ H _ _ r h fun r1 ρ1 x H1 h1 rel1=>?_
 obtain⟨r',k1,i1⟩:=rel1.inF
 refine hb F σ ρ1 H1 _ _ r' h1 fun r2 ρ2 y H2 h2 rel2=>?_
 obtain⟨r'',k2,i2⟩:=rel2.inF
 exact ho F σ ρ2 H2 x y _ _ q Q r'' (i1.keep k2) i2 h2 (k.after (k1.trans k2))
def aUn (g:R->AE)(a:AE):AE:=fun ρ q=>a ρ fun r1 ρ1=>g r1.frz ρ1 q
def gI (C:Int->Int->Prop)(f:Int->Int->D):R->R->AE:=fun r1 r2 ρ q=>match r1,r2 with
 | .d (.int i),.d (.int j)=>C i j/\q (.d (f i j)) ρ
 | _,_=>False
theorem d1a {C:Int->Int->Prop}{f:Int->Int->D}{r1 r2:R}(h:gI C f r1 r2 ρ q):∃i j,r1 = .d (.int i)/\r2 = .d (.int j)/\C i j/\q (.d (f i j)) ρ:=by
 unfold gI at h
 split at h
 ·exact⟨_,_,rfl,rfl,h⟩
 ·exact h.elim
theorem InF.int {i:Int}(h:InF K F σ ρ H v (.d (.int i))):v = .int i:=by
 unfold InF RepD at h;exact h
theorem InF.blv {i:Bool}(h:InF K F σ ρ H v (.d (.bl i))):v = .bl i:=by
 unfold InF RepD at h;exact h
theorem d0n {C:Int->Int->Prop}{f:Int->Int->Int}:OpOk K (rI C fun i j=>.int (f i j)) (gI C fun i j=>.int (f i j)):=by
 intro F σ ρ H x y r1 r2 q Q a h1 h2 h b
 obtain⟨i,j,rfl,rfl,c,h⟩:=d1a h
 exact⟨i,j,h1.int,h2.int,c,b.int a h⟩
def gI0 (f:Int->Int->D):R->R->AE:=fun r1 r2 ρ q=>match r1,r2 with
 | .d (.int i),.d (.int j)=>q (.d (f i j)) ρ
 | _,_=>False
theorem u0k {f:Int->Int->D}{r1 r2:R}(h:gI0 f r1 r2 ρ q):∃i j,r1 = .d (.int i)/\r2 = .d (.int j)/\q (.d (f i j)) ρ:=by
 unfold gI0 at h
 split at h
 ·exact⟨_,_,rfl,rfl,h⟩
 ·exact h.elim
theorem b0a {f:Int->Int->Int}:OpOk K (rI0 fun i j=>.int (f i j)) (gI0 fun i j=>.int (f i j)):=by
 intro F σ ρ H x y r1 r2 q Q a h1 h2 h b
 obtain⟨i,j,rfl,rfl,h⟩:=u0k h
 exact⟨i,j,h1.int,h2.int,b.int a h⟩
theorem i0m {f:Int->Int->Bool}:OpOk K (rI0 fun i j=>.bl (f i j)) (gI0 fun i j=>.bl (f i j)):=by
 intro F σ ρ H x y r1 r2 q Q a h1 h2 h b
 obtain⟨i,j,rfl,rfl,h⟩:=u0k h
 exact⟨i,j,h1.int,h2.int,b.bl a h⟩
@[irreducible] def gEq (neg:Bool):R->R->AE:=fun r1 r2 ρ q=>match view ρ r1,view ρ r2 with
 | some d,some e=>d.depth<=60/\q (.d (.bl (if neg then !eqD d e else eqD d e))) ρ
 | _,_=>False
theorem u0l {neg:Bool}{r1 r2:R}(h:gEq neg r1 r2 ρ q):∃d e,view ρ r1=some d/\view ρ r2=some e/\d.depth<=60/\q (.d (.bl (if neg then !eqD d e else eqD d e))) ρ:=by
 unfold gEq at h
 split at h
 ·rename_i d e h1 h2;exact⟨d,e,h1,h2,h⟩
 ·exact h.elim
theorem g0g:OpOk K (rEqD K) (gEq false):=by
 intro F σ ρ H x y r1 r2 q Q a h1 h2 h b
 obtain⟨d,e,e1,e2,c,h⟩:=u0l h
 exact⟨d,e,d0f a h1 e1,d0f a h2 e2,c,b.bl a h⟩
theorem i0l:OpOk K (rNeD K) (gEq true):=by
 intro F σ ρ H x y r1 r2 q Q a h1 h2 h b
 obtain⟨d,e,e1,e2,c,h⟩:=u0l h
 exact⟨d,e,d0f a h1 e1,d0f a h2 e2,c,b.bl a h⟩
@[irreducible] def gIx:R->R->AE:=fun r1 r2 ρ q=>match view ρ r1,r2 with
 | some (.lst ds),.d (.int i)=>(match atI ds i with | some d=>q (.d d) ρ | none=>False)
 | some (.tup ds),.d (.int i)=>(match atI ds i with | some d=>q (.d d) ρ | none=>False)
 | _,_=>False
theorem v0d {Hh:Hp}{vs:List V}{ds:List D}{i:Int}{d:D}(h:RepDs K Hh vs ds)(e:atI ds i=some d):∃v,atI vs i=some v/\RepD K Hh v d:=by
 unfold atI at e ⊢
 rw[h.length]
 cases hx:ixN ds.length i with
 | none=>rw[hx]at e;cases e
 | some j =>
  rw[hx]at e
  exact h.get e
theorem d0t:OpOk K (rIx K) gIx:=by
 intro F σ ρ H x y r1 r2 q Q a h1 h2 h b
 unfold gIx at h
 split at h
 ·rename_i ds i e1
  split at h
  ·rename_i d e
   obtain⟨l,vs,rfl,sq,rd⟩:=c0d a h1 e1
   obtain⟨v,e2,rv⟩:=v0d rd e
   exact .inl ⟨l,vs,i,v,rfl,h2.int,sq,e2,b.dat a h rv⟩
  ·exact h.elim
 ·rename_i ds i e1
  split at h
  ·rename_i d e
   obtain⟨l,vs,rfl,sq,rd,_⟩:=f0f a h1 e1
   obtain⟨v,e2,rv⟩:=v0d rd e
   exact .inr (.inl ⟨l,vs,i,v,rfl,h2.int,sq,e2,b.dat a h rv⟩)
  ·exact h.elim
 ·exact h.elim
def e1k (a b:AE):AE:=fun ρ q=>a ρ fun r ρ1=>match r with
 | .d (.bl c)=>if c=true then b ρ1 q else q (.d (.bl false)) ρ1
 | _=>False
def e1e (a:AE):AE:=fun ρ q=>a ρ fun r ρ1=>match r with
 | .d (.bl c)=>q (.d (.bl (!c))) ρ1
 | _=>False
theorem v0p (ha:TEok K ta a)(hb:TEok K tb b):TEok K (b1j ta tb) (e1k a b):=by
 intro F σ ρ H q Q r h k
 refine ha F σ ρ H _ _ r h fun r1 ρ1 x H1 h1 rel1=>?_
 split at h1
 ·rename_i c
  obtain⟨r',k1,i1⟩:=rel1.inF
  refine⟨c,i1.blv,?_⟩
  cases c with
  | true=>exact hb F σ ρ1 H1 q Q r' h1 (k.after k1)
  | false=>exact(k.after k1).bl r' h1
 ·exact h1.elim
theorem v0n (ha:TEok K ta a):TEok K (b1h ta) (e1e a):=by
 intro F σ ρ H q Q r h k
 refine ha F σ ρ H _ _ r h fun r1 ρ1 x H1 h1 rel1=>?_
 split at h1
 ·rename_i c
  obtain⟨r',k1,i1⟩:=rel1.inF
  exact⟨c,i1.blv,(k.after k1).bl r' h1⟩
 ·exact h1.elim
variable {tt tu:TT}{at' au:AT}
def aB (a:AE):AT:=fun ρ q=>a ρ fun r ρ1=>match r with
 | .d (.bl c)=>q c ρ1
 | _=>False
theorem s0c (ha:TEok K ta a):TTok K (tB ta) (aB a):=by
 intro F σ ρ H q Q r h k
 refine ha F σ ρ H _ _ r h fun r1 ρ1 x H1 h1 rel1=>?_
 split at h1
 ·rename_i c
  obtain⟨r',k1,i1⟩:=rel1.inF
  exact⟨c,i1.blv,k _ _ _ h1 r' k1⟩
 ·exact h1.elim
theorem a0r (ha:TEok K ta a):TTok K (b1f ta) (aB a):=s0c ha
def aAnd (a b:AT):AT:=fun ρ q=>a ρ fun c ρ1=>if c=true then b ρ1 q else q false ρ1
def aOr (a b:AT):AT:=fun ρ q=>a ρ fun c ρ1=>if c=true then q true ρ1 else b ρ1 q
def aNot (a:AT):AT:=fun ρ q=>a ρ fun c ρ1=>q (!c) ρ1
theorem g0d (ha:TTok K tt at')(hb:TTok K tu au):TTok K (tAnd tt tu) (aAnd at' au):=by
 intro F σ ρ H q Q r h k
 refine ha F σ ρ H _ _ r h fun c ρ1 H1 h1 r1 k1=>?_
 cases c with
 | true=>exact hb F σ ρ1 H1 q Q r1 h1 fun b ρ2 H2 h2 r2 k2=>k _ _ _ h2 r2 (k1.trans k2)
 | false=>exact k _ _ _ h1 r1 k1
theorem o0h (ha:TTok K tt at')(hb:TTok K tu au):TTok K (tOr tt tu) (aOr at' au):=by
 intro F σ ρ H q Q r h k
 refine ha F σ ρ H _ _ r h fun c ρ1 H1 h1 r1 k1=>?_
 cases c with
 | true=>exact k _ _ _ h1 r1 k1
 | false=>exact hb F σ ρ1 H1 q Q r1 h1 fun b ρ2 H2 h2 r2 k2=>k _ _ _ h2 r2 (k1.trans k2)
theorem k0t (ha:TTok K tt at'):TTok K (tNot tt) (aNot at'):=fun F σ ρ H q Q r h k=>ha F σ ρ H _ _ r h fun c ρ1 H1 h1 r1 k1=>k _ _ _ h1 r1 k1
def truD:D->Bool
 | .non=>false
 | .bl b=>b
 | .int i=>i != 0
 | .str _=>true
 | .tup ds=>!ds.isEmpty
 | .lst ds=>!ds.isEmpty
def aTru (a:AE):AT:=fun ρ q=>a ρ fun r ρ1=>match view ρ1 r.frz with
 | some (.str _)=>False
 | some d=>q (truD d) ρ1
 | none=>False
theorem i0s {Hh:Hp}{vs:List V}{ds:List D}(h:RepDs K Hh vs ds):vs.isEmpty=ds.isEmpty:=by
 have:=h.length
 cases vs <;> cases ds <;> simp_all
theorem k0s (ha:TEok K ta a):TTok K (fun σ H Q=>ta σ H fun x H'=>∃k,TruV K x H' k/\Q k H') (aTru a):=by
 intro F σ ρ H q Q r h k
 refine ha F σ ρ H _ _ r h fun r1 ρ1 x H1 h1 rel1=>?_
 obtain⟨r',k1,i1⟩:=rel1.inF
 cases e:view ρ1 r1.frz with
 | none=>rw[e]at h1;exact h1.elim
 | some d =>
  rw[e]at h1
  have rd:=d0f r' i1 e
  cases d with
  | str x=>exact h1.elim
  | non=>unfold RepD at rd;subst rd;exact⟨_,rfl,k _ _ _ h1 r' k1⟩
  | bl b=>unfold RepD at rd;subst rd;exact⟨_,rfl,k _ _ _ h1 r' k1⟩
  | int b=>unfold RepD at rd;subst rd;exact⟨_,rfl,k _ _ _ h1 r' k1⟩
  | tup ds =>
   unfold RepD at rd
   obtain⟨p,vs,rfl,sq,rr⟩:=rd
   exact⟨_,.inr (.inl ⟨vs,sq,by rw[i0s rr];rfl⟩),k _ _ _ h1 r' k1⟩
  | lst ds =>
   unfold RepD at rd
   obtain⟨p,vs,rfl,sq,rr⟩:=rd
   exact⟨_,.inl ⟨vs,sq,by rw[i0s rr];rfl⟩,k _ _ _ h1 r' k1⟩
def aIf (c:AT)(a b:AE):AE:=fun ρ q=>c ρ fun k ρ1=>if k=true then a ρ1 q else b ρ1 q
theorem b1d (hc:TTok K tt at')(ha:TEok K ta a)(hb:TEok K tb b):TEok K (tIf tt ta tb) (aIf at' a b):=by
 intro F σ ρ H q Q r h k
 refine hc F σ ρ H _ _ r h fun c ρ1 H1 h1 r1 k1=>?_
 cases c with
 | true=>exact ha F σ ρ1 H1 q Q r1 h1 (k.after k1)
 | false=>exact hb F σ ρ1 H1 q Q r1 h1 (k.after k1)
variable {ts:TA}{as:AA}
def aNil:AA:=fun ρ q=>q [] ρ
def e1g (a:AE)(as:AA):AA:=fun ρ q=>a ρ fun r ρ1=>as ρ1 fun rs ρ2=>q (r.frz::rs) ρ2
theorem a0d:TAok K tNil aNil:=fun F σ ρ H q Q r h k=>k _ _ _ _ h r .nil .refl
theorem a0a (ha:TEok K ta a)(hs:TAok K ts as):TAok K (b1i ta ts) (e1g a as):=by
 intro F σ ρ H q Q r h k
 refine ha F σ ρ H _ _ r h fun r1 ρ1 x H1 h1 rel1=>?_
 obtain⟨r',k1,i1⟩:=rel1.inF
 refine hs F σ ρ1 H1 _ _ r' h1 fun rs ρ2 vs H2 h2 r2 i2 k2=>?_
 exact k _ _ _ _ h2 r2 (.cons (i1.keep k2) i2) (k1.trans k2)
def sto:List R->En->(List D->En->Prop)->Prop
 | [],ρ,q=>q [] ρ
 | .d d::rs,ρ,q=>sto rs ρ fun ds ρ'=>q (d::ds) ρ'
 | .o i::rs,ρ,q=>(match gt ρ i with
  | .ow ds=>sto rs (pt ρ i (.vl (.lst ds))) fun es ρ'=>q (.lst ds::es) ρ'
  | .vl d=>sto rs ρ fun es ρ'=>q (d::es) ρ'
  | _=>False)
 | _::_,_,_=>False
theorem h0h:∀ {vs:List V} {rs:List R} {ρ:En} {q:List D->En->Prop},Rel K F σ ρ H->InFs K F σ ρ H vs rs->sto rs ρ q->∃ds ρ',q ds ρ'/\Rel K F σ ρ' H/\Kp σ ρ ρ' H H/\RepDs K (hid H (hs F σ ρ')) vs ds
 | _,_,ρ,q,r,.nil,h=>⟨[],ρ,h,r,.refl,.nil⟩
 | _,_,ρ,q,r,.cons (v:=v) (r:=rr) (vs:=vs) (rs:=rs) a t,h=>by
  cases rr with
  | n s=>exact h.elim
  | t n=>exact h.elim
  | x s=>exact h.elim
  | d d =>
   obtain⟨ds,ρ',hq,r',k,rd⟩:=h0h r t (show sto rs ρ _ from h)
   exact⟨d::ds,ρ',hq,r',k,.cons (RepD.same a k.vis) rd⟩
  | o i =>
   have s:=r.sl i
   unfold sto at h
   cases hg:gt ρ i with
   | un=>rw[hg]at h;exact h.elim
   | tp n=>rw[hg]at h;exact h.elim
   | dk n=>rw[hg]at h;exact h.elim
   | dt n=>rw[hg]at h;exact h.elim
   | ex n m=>rw[hg]at h;exact h.elim
   | sc n=>rw[hg]at h;exact h.elim
   | px n m k=>rw[hg]at h;exact h.elim
   | xl es=>rw[hg]at h;exact h.elim
   | vl d =>
    rw[hg]at h s
    obtain⟨x,e,rd1⟩:=s
    rw[show σ[i]? = _ from a]at e
    injection e with e;injection e with e;subst e
    obtain⟨ds,ρ',hq,r',k,rd⟩:=h0h r t h
    exact⟨d::ds,ρ',hq,r',k,.cons (rd1.same k.vis) rd⟩
   | ow ds =>
    rw[hg]at h
    obtain⟨l,e,r1,k1,rd1⟩:=r.frz hg
    rw[show σ[i]? = _ from a]at e
    injection e with e;injection e with e;subst e
    obtain⟨es,ρ',hq,r',k,rd⟩:=h0h r1 (t.keep k1) h
    exact⟨_,ρ',hq,r',k1.trans k,.cons (rd1.same k.vis) rd⟩
theorem small {n:Nat}(h:n<=1000000):n<=sizeLine:=by unfold sizeLine;omega
theorem s0v {n:Nat}(h:n<=1000000):n<sizeLine:=by unfold sizeLine;omega
def aTup (as:AA):AE:=fun ρ q=>as ρ fun rs ρ1=>sto rs ρ1 fun ds ρ2=>ds.length<=1000000/\q (.d (.tup ds)) ρ2
def aLst (as:AA):AE:=fun ρ q=>as ρ fun rs ρ1=>sto rs ρ1 fun ds ρ2=>ds.length<=1000000/\q (.f ds) ρ2
theorem e0d (hs:TAok K ts as):TEok K (tTup ts) (aTup as):=by
 intro F σ ρ H q Q r h k
 refine hs F σ ρ H _ _ r h fun rs ρ1 vs H1 h1 r1 i1 k1=>?_
 obtain⟨ds,ρ2,⟨hz,hq⟩,r2,k2,rd⟩:=h0h r1 i1 h1
 exact⟨small (by rw[rd.length];exact hz),fun p hp=>((k.after k1).after k2).newT r2 hq rd hp⟩
theorem d0x (hs:TAok K ts as):TEok K (tLst ts) (aLst as):=by
 intro F σ ρ H q Q r h k
 refine hs F σ ρ H _ _ r h fun rs ρ1 vs H1 h1 r1 i1 k1=>?_
 obtain⟨ds,ρ2,⟨hz,hq⟩,r2,k2,rd⟩:=h0h r1 i1 h1
 exact⟨small (by rw[rd.length];exact hz),fun p hp=>((k.after k1).after k2).new r2 hq rd hp⟩
def aCB (g:List R->AE)(as:AA):AE:=fun ρ q=>as ρ fun rs ρ1=>g rs ρ1 q
theorem b0t {rb:List V->Hp->VK->Prop}{g:List R->AE}(hb:CbOk K rb g)(hs:TAok K ts as):TEok K (tCB rb ts) (aCB g as):=by
 intro F σ ρ H q Q r h k
 exact hs F σ ρ H _ _ r h fun rs ρ1 vs H1 h1 r1 i1 k1=>hb F σ ρ1 H1 vs rs q Q r1 i1 h1 (k.after k1)
theorem InFs.one {vs:List V}{r1:R}(h:InFs K F σ ρ H vs [r1]):∃x,vs=[x]/\InF K F σ ρ H x r1:=by
 cases h with | cons a t=>cases t;exact⟨_,rfl,a⟩
theorem InFs.two {vs:List V}{r1 r2:R}(h:InFs K F σ ρ H vs [r1,r2]):∃x y,vs=[x,y]/\InF K F σ ρ H x r1/\InF K F σ ρ H y r2:=by
 cases h with | cons a t=>obtain⟨y,rfl,b⟩:=t.one;exact⟨_,_,rfl,a,b⟩
def gLen:List R->AE:=fun rs ρ q=>match rs with
 | [r]=>(match view ρ r with
  | some (.lst ds)=>q (.d (.int ds.length)) ρ
  | some (.tup ds)=>q (.d (.int ds.length)) ρ
  | _=>False)
 | _=>False
theorem c0r:CbOk K (fun xs H Q=>∃p ys,xs=[.ref p]/\(SqL K H p ys∨SqT K H p ys)/\Q (.int ys.length) H) gLen:=by
 intro F σ ρ H vs rs q Q a i h b
 unfold gLen at h
 split at h
 ·obtain⟨x,rfl,i1⟩:=i.one
  split at h
  ·rename_i ds e
   obtain⟨l,vs,rfl,sq,rd⟩:=c0d a i1 e
   exact⟨l,vs,rfl,.inl sq,by rw[rd.length];exact b.int a h⟩
  ·rename_i ds e
   obtain⟨l,vs,rfl,sq,rd,_⟩:=f0f a i1 e
   exact⟨l,vs,rfl,.inr sq,by rw[rd.length];exact b.int a h⟩
  ·exact h.elim
 ·exact h.elim
@[irreducible] def gIsa:List R->AE:=fun rs ρ q=>match rs with
 | [r,.t n]=>(match view ρ r with
  | some d=>(match isaT (tyD d) n with | some b=>q (.d (.bl b)) ρ | none=>False)
  | none=>False)
 | _=>False
theorem l0z:CbOk K (fun xs H Q=>∃x d T b,xs=[x,.ty T]/\RepD K H x d/\isaT (tyD d) T=some b/\Q (.bl b) H) gIsa:=by
 intro F σ ρ H vs rs q Q a i h b
 unfold gIsa at h
 split at h
 ·obtain⟨x,y,rfl,i1,j1⟩:=i.two
  split at h
  ·rename_i d e
   split at h
   ·rename_i b' e'
    exact⟨x,d,_,b',by rw[show y=_ from j1],d0f a i1 e,e',b.bl a h⟩
   ·exact h.elim
  ·exact h.elim
 ·exact h.elim
def gList:List R->AE:=fun rs ρ q=>match rs with
 | [r]=>(match view ρ r with
  | some (.lst ds)=>q (.f ds) ρ
  | some (.tup ds)=>q (.f ds) ρ
  | _=>False)
 | _=>False
theorem u0z:CbOk K (fun xs H Q=>∃p ys,xs=[.ref p]/\(SqL K H p ys∨SqT K H p ys)/\∀l,H l=none->Q (.ref l) (upd H l (.lst ys))) gList:=by
 intro F σ ρ H vs rs q Q a i h b
 unfold gList at h
 split at h
 ·obtain⟨x,rfl,i1⟩:=i.one
  split at h
  ·rename_i ds e
   obtain⟨l,vs,rfl,sq,rd⟩:=c0d a i1 e
   exact⟨l,vs,rfl,.inl sq,fun p hp=>b.new a h rd hp⟩
  ·rename_i ds e
   obtain⟨l,vs,rfl,sq,rd,_⟩:=f0f a i1 e
   exact⟨l,vs,rfl,.inr sq,fun p hp=>b.new a h rd hp⟩
  ·exact h.elim
 ·exact h.elim
def gTuple:List R->AE:=fun rs ρ q=>match rs with
 | [r]=>(match view ρ r with
  | some (.lst ds)=>q (.d (.tup ds)) ρ
  | some (.tup ds)=>q (.d (.tup ds)) ρ
  | _=>False)
 | _=>False
theorem r0v:CbOk K (fun xs H Q=>∃p ys,xs=[.ref p]/\((SqL K H p ys/\∀l,H l=none->Q (.ref l) (upd H l (.tup ys)))∨(SqT K H p ys/\Q (.ref p) H))) gTuple:=by
 intro F σ ρ H vs rs q Q a i h b
 unfold gTuple at h
 split at h
 ·obtain⟨x,rfl,i1⟩:=i.one
  split at h
  ·rename_i ds e
   obtain⟨l,vs,rfl,sq,rd⟩:=c0d a i1 e
   exact⟨l,vs,rfl,.inl ⟨sq,fun p hp=>b.newT a h rd hp⟩⟩
  ·rename_i ds e
   obtain⟨l,vs,rfl,sq,rd,sq'⟩:=f0f a i1 e
   refine⟨l,vs,rfl,.inr ⟨sq,b.dat a h ?_⟩⟩
   unfold RepD
   exact⟨l,vs,rfl,sq',rd⟩
  ·exact h.elim
 ·exact h.elim
def d0u:List D->Option (List Int)
 | []=>some []
 | .int i::ds=>(d0u ds).map (i :: ·)
 | _=>none
theorem g0n:∀ {ds:List D} {ns:List Int},d0u ds=some ns->ds=ns.map D.int
 | [],ns,h=>by simp[d0u]at h;subst h;rfl
 | .int i::ds,ns,h=>by
  simp only[d0u,Option.map_eq_some_iff]at h
  obtain⟨ms,e,rfl⟩:=h
  rw[g0n e];rfl
 | .non::ds,ns,h=>by simp[d0u]at h
 | .bl _::ds,ns,h=>by simp[d0u]at h
 | .str _::ds,ns,h=>by simp[d0u]at h
 | .tup _::ds,ns,h=>by simp[d0u]at h
 | .lst _::ds,ns,h=>by simp[d0u]at h
theorem g0z (ns:List Int):d0u (ns.map D.int)=some ns:=by
 induction ns with
 | nil=>rfl
 | cons n ns ih=>simp[d0u,ih]
@[irreducible] def gSum:List R->AE:=fun rs ρ q=>match rs with
 | [r]=>(match view ρ r with
  | some (.lst ds)=>(match d0u ds with | some ns=>(∀n∈ns,0<=n)/\ns.sum<2^62/\q (.d (.int ns.sum)) ρ | none=>False)
  | _=>False)
 | _=>False
theorem q0v:CbOk K (fun xs H Q=>∃(p:Addr) (ns:List Int),xs=[.ref p]/\SqL K H p (ns.map V.int)/\(∀n∈ns,0<=n)/\ns.sum<2^62/\Q (.int ns.sum) H) gSum:=by
 intro F σ ρ H vs rs q Q a i h b
 unfold gSum at h
 split at h
 ·obtain⟨x,rfl,i1⟩:=i.one
  split at h
  ·rename_i ds e
   split at h
   ·rename_i bs e'
    obtain⟨l,vs,rfl,sq,rd⟩:=c0d a i1 e
    rw[g0n e',g0w]at rd
    rw[rd]at sq
    exact⟨l,bs,rfl,sq,h.1,h.2.1,b.int a h.2.2⟩
   ·exact h.elim
  ·exact h.elim
 ·exact h.elim
def aApp (a:AE)(as:AA):AE:=fun ρ q=>a ρ fun r ρ1=>match r with
 | .o i=>(match gt ρ1 i with
  | .ow _=>as ρ1 fun rs ρ2=>(match rs with
   | [y]=>sto [y] ρ2 fun es ρ3=>(match gt ρ3 i with
    | .ow ds=>ds.length<=1000000/\q (.d .non) (pt ρ3 i (.ow (ds++es)))
    | _=>False)
   | _=>False)
  | _=>False)
 | _=>False
theorem k0v (ha:TEok K ta a)(hs:TAok K ts as):TEok K (tBM K "list" rAppend ta ts) (aApp a as):=by
 intro F σ ρ H q Q r h k
 refine ha F σ ρ H _ _ r h fun r1 ρ1 x H1 h1 rel1=>?_
 split at h1
 ·rename_i i
  obtain⟨r',k1,i1⟩:=rel1.inF
  have ex:σ[i]? = some (some x):=i1
  split at h1
  ·rename_i ds0 hg0
   have s:=r'.sl i
   rw[hg0,ex]at s
   obtain⟨l,vs0,e,hl,_⟩:=s
   injection e with e;injection e with e;subst e
   refine⟨.inl ⟨rfl,_,SqL.of hl⟩,hs F σ ρ1 H1 _ _ r' h1 fun rs ρ2 vs H2 h2 r2 i2 k2=>?_⟩
   split at h2
   ·obtain⟨es,ρ3,h3,r3,k3,rd⟩:=h0h r2 i2 h2
    split at h3
    ·rename_i ds hg
     have s:=r3.sl i
     rw[hg,ex]at s
     obtain⟨l',us,e,hl',rd'⟩:=s
     injection e with e;injection e with e;injection e with e;subst e
     obtain⟨y,rfl,_⟩:=i2.one
     have hw:=r3.write (i:=i) (l:=l) (o:=.lst (us++[y])) (s:=.ow (ds++es)) (by rw[hg];rfl) ex rfl ⟨l,_,rfl,b0i,rd'.append rd⟩
     refine⟨l,us,y,rfl,rfl,hl',s0v (by rw[rd'.length];exact h3.1),?_⟩
     exact(((k.after k1).after k2).after (k3.trans hw.2)).non hw.1 h3.2
    ·exact h3.elim
   ·exact h2.elim
  ·exact h1.elim
 ·exact h1.elim
abbrev AO:=En->(Option Int->En->Prop)->Prop
def TOok (K:PySem.W.Frag)(t:TO)(a:AO):Prop:=∀F σ ρ H q Q,Rel K F σ ρ H->a ρ q->(∀b ρ' H',q b ρ'->Rel K F σ ρ' H'->Kp σ ρ ρ' H H'->Q b H')->t σ H Q
def oNo:AO:=fun ρ q=>q none ρ
def d1v (a:AE):AO:=fun ρ q=>a ρ fun r ρ1=>match r with
 | .d (.int i)=>q (some i) ρ1
 | _=>False
theorem s0d:TOok K tNoPart oNo:=fun F σ ρ H q Q r h k=>k _ _ _ h r .refl
theorem m0i (ha:TEok K ta a):TOok K (b1g ta) (d1v a):=by
 intro F σ ρ H q Q r h k
 refine ha F σ ρ H _ _ r h fun r1 ρ1 x H1 h1 rel1=>?_
 split at h1
 ·obtain⟨r',k1,i1⟩:=rel1.inF
  exact⟨_,i1.int,k _ _ _ h1 r' k1⟩
 ·exact h1.elim
def cutD (xs:List D)(lo hi:Option Int):List D:=(xs.drop (HT.sIx xs.length 0 lo)).take (HT.sIx xs.length xs.length hi - HT.sIx xs.length 0 lo)
theorem RepDs.drop:∀ {vs:List V} {ds:List D} (n:Nat),RepDs K H vs ds->RepDs K H (vs.drop n) (ds.drop n)
 | [],[],n,h=>by simp[RepDs.nil]
 | v::vs,d::ds,0,h=>h
 | v::vs,d::ds,n+1,h=>by unfold RepDs at h;exact RepDs.drop n h.2
 | [],d::ds,_,h=>by unfold RepDs at h;exact h.elim
 | v::vs,[],_,h=>by unfold RepDs at h;exact h.elim
theorem RepDs.take:∀ {vs:List V} {ds:List D} (n:Nat),RepDs K H vs ds->RepDs K H (vs.take n) (ds.take n)
 | [],[],n,h=>by simp[RepDs.nil]
 | v::vs,d::ds,0,h=>.nil
 | v::vs,d::ds,n+1,h=>by unfold RepDs at h;exact .cons h.1 (RepDs.take n h.2)
 | [],d::ds,_,h=>by unfold RepDs at h;exact h.elim
 | v::vs,[],_,h=>by unfold RepDs at h;exact h.elim
theorem z0u {vs:List V}{ds:List D}{lo hi:Option Int}(h:RepDs K H vs ds):RepDs K H (cutV vs lo hi) (cutD ds lo hi):=by
 unfold cutV cutD
 rw[h.length]
 exact(h.drop _).take _
end
def c0l (ρ:En):R->Sv
 | .d d=>.vl d
 | .o j=>gt ρ j
 | .x s=>s
 | _=>.un
def Src (K:PySem.W.Frag)(F:Fr)(σ:St)(ρ:En)(H:Hp)(ov:Option V):R->Prop
 | .d d=>∃v,ov=some v/\RepD K (hid H (hs F σ ρ)) v d
 | .o j=>(σ[j]?).getD none=ov
 | .x s=>∃v,ov=some v/\s.own=false/\SvOk K (hid H (hs F σ ρ)) H (some (some v)) s
 | _=>True
inductive Srcs (K:PySem.W.Frag) (F:Fr) (σ:St) (ρ:En) (H:Hp):St->List R->Prop
 | nil:Srcs K F σ ρ H [] []
 | cons {v:Option V} {r:R} {vs:St} {rs:List R}:Src K F σ ρ H v r->Srcs K F σ ρ H vs rs->Srcs K F σ ρ H (v::vs) (r::rs)
def isO (j:Nat):R->Bool
 | .o i=>i==j
 | _=>false
def dis:List R->Bool
 | []=>true
 | .o j::rs=>rs.all (fun r=>!isO j r)&&dis rs
 | _::rs=>dis rs
theorem w0p:∀ {rs:List R} {k k' j:Nat},dis rs=true->rs[k]? = some (.o j)->rs[k']? = some (.o j)->k=k':=by
 intro rs
 induction rs with
 | nil=>intro k k' j _ h;simp at h
 | cons r rs ih =>
  intro k k' j hd h h'
  have hd':dis rs=true:=by
   cases r <;> simp[dis]at hd <;> first | exact hd.2 | exact hd
  have no:∀(m:Nat),r = .o j->rs[m]? = some (.o j)->False:=fun m e hm=>by
   subst e
   simp[dis]at hd
   have:=hd.1 _ (List.mem_of_getElem? hm)
   simp[isO]at this
  cases k with
  | zero =>
   cases k' with
   | zero=>rfl
   | succ k'=>simp at h h';exact(no k' h h').elim
  | succ k =>
   cases k' with
   | zero=>simp at h h';exact(no k h' h).elim
   | succ k'=>simp at h h';rw[ih hd' h h']
def back:En->List R->En->En
 | ρ,.o j::rs,s::ss=>back (pt ρ j s) rs ss
 | ρ,_::rs,_::ss=>back ρ rs ss
 | ρ,_,_=>ρ
theorem e0r:∀(rs:List R) (ρ ss:En),(back ρ rs ss).length=ρ.length
 | [],ρ,ss=>by cases ss <;> rfl
 | r::rs,ρ,[]=>by cases r <;> rfl
 | .o j::rs,ρ,s::ss=>by show(back (pt ρ j s) rs ss).length=_;rw[e0r,d0s]
 | .d d::rs,ρ,s::ss=>e0r rs ρ ss
 | .n d::rs,ρ,s::ss=>e0r rs ρ ss
 | .t d::rs,ρ,s::ss=>e0r rs ρ ss
 | .x d::rs,ρ,s::ss=>e0r rs ρ ss
theorem g0c:∀(rs:List R) (ρ ss:En) (i:Nat),(∀k:Nat,rs[k]? ≠ some (R.o i))->gt (back ρ rs ss) i=gt ρ i
 | [],ρ,ss,i,_=>by cases ss <;> rfl
 | r::rs,ρ,[],i,_=>by cases r <;> rfl
 | .o j::rs,ρ,s::ss,i,h=>by
  have ne:j≠i:=fun e=>h 0 (by simp[e])
  show gt (back (pt ρ j s) rs ss) i=_
  rw[g0c rs _ ss i (fun k z=>h (k+1) (by simpa using z)),b0g ρ j i s ne]
 | .d d::rs,ρ,s::ss,i,h=>g0c rs ρ ss i (fun k z=>h (k+1) (by simpa using z))
 | .n d::rs,ρ,s::ss,i,h=>g0c rs ρ ss i (fun k z=>h (k+1) (by simpa using z))
 | .t d::rs,ρ,s::ss,i,h=>g0c rs ρ ss i (fun k z=>h (k+1) (by simpa using z))
 | .x d::rs,ρ,s::ss,i,h=>g0c rs ρ ss i (fun k z=>h (k+1) (by simpa using z))
theorem h0f:∀(rs:List R) (ρ ss:En) (i k:Nat),dis rs=true->rs[k]? = some (.o i)->ss.length=rs.length->i<ρ.length->gt (back ρ rs ss) i=gt ss k
 | [],ρ,ss,i,k,_,h,_,_=>by simp at h
 | r::rs,ρ,[],i,k,_,_,e,_=>by simp at e
 | .o j::rs,ρ,s::ss,i,0,hd,h,e,l=>by
  simp at h;subst h
  simp[dis]at hd
  show gt (back (pt ρ j s) rs ss) j=s
  rw[g0c rs _ ss j (fun k z=>by have:=hd.1 _ (List.mem_of_getElem? z);simp[isO]at this),h0r ρ j s l]
 | .o j::rs,ρ,s::ss,i,k+1,hd,h,e,l=>by
  simp[dis]at hd
  exact h0f rs (pt ρ j s) ss i k hd.2 (by simpa using h) (by simpa using e) (by rw[d0s];exact l)
 | .d d::rs,ρ,s::ss,i,0,hd,h,e,l=>by simp at h
 | .n d::rs,ρ,s::ss,i,0,hd,h,e,l=>by simp at h
 | .t d::rs,ρ,s::ss,i,0,hd,h,e,l=>by simp at h
 | .x d::rs,ρ,s::ss,i,0,hd,h,e,l=>by simp at h
 | .d d::rs,ρ,s::ss,i,k+1,hd,h,e,l=>h0f rs ρ ss i k hd (by simpa using h) (by simpa using e) l
 | .n d::rs,ρ,s::ss,i,k+1,hd,h,e,l=>h0f rs ρ ss i k hd (by simpa using h) (by simpa using e) l
 | .t d::rs,ρ,s::ss,i,k+1,hd,h,e,l=>h0f rs ρ ss i k hd (by simpa using h) (by simpa using e) l
 | .x d::rs,ρ,s::ss,i,k+1,hd,h,e,l=>h0f rs ρ ss i k hd (by simpa using h) (by simpa using e) l
theorem n0l (ρ:En):∀(rs:List R) (k:Nat),gt (rs.map (c0l ρ)) k=(match rs[k]? with | some r=>c0l ρ r | none=>.un)
 | [],k=>by simp[gt]
 | r::rs,0=>by simp[gt]
 | r::rs,k+1=>by simp[gt,n0l ρ rs k]
section
variable {K:PySem.W.Frag}{F:Fr}{σ:St}{ρ ρ':En}{H H':Hp}{ovs:St}{rs:List R}
theorem Srcs.length (s:Srcs K F σ ρ H ovs rs):ovs.length=rs.length:=by
 induction s with
 | nil=>rfl
 | cons _ _ ih=>simp[ih]
theorem Srcs.get {k:Nat}{r:R}(s:Srcs K F σ ρ H ovs rs)(h:rs[k]? = some r):∃ov,ovs[k]? = some ov/\Src K F σ ρ H ov r:=by
 induction s generalizing k with
 | nil=>simp at h
 | cons a _ ih =>
  cases k with
  | zero=>simp at h;subst h;exact⟨_,rfl,a⟩
  | succ k=>obtain⟨ov,e,q⟩:=ih (by simpa using h);exact⟨ov,by simpa using e,q⟩
def f0m (F:Fr)(σ:St)(ρ:En)(H:Hp)(ovs:St)(ss:En):Fr :=
 ⟨H,fun a=>F.Z a∨(b0c σ ρ a/\¬b0c ovs ss a),fun a=>b0c ovs ss a,fun i a=>(gt ss i).own=true/\ovs[i]? = some (some (.ref a)),fun _ _=>False⟩
theorem o0i (s:Srcs K F σ ρ H ovs rs){k:Nat}(h:(gt (rs.map (c0l ρ)) k).own=true):∃j:Nat,rs[k]? = some (R.o j)/\(gt ρ j).own=true/\gt (rs.map (c0l ρ)) k=gt ρ j/\ovs[k]? = some ((σ[j]?).getD none):=by
 rw[n0l]at h
 cases e:rs[k]? with
 | none=>simp[e]at h;cases h
 | some r =>
  rw[e]at h
  cases r with
  | d d=>cases h
  | n d=>cases h
  | t d=>cases h
  | x d =>
   obtain⟨ov,_,_,_,hx,_⟩:=s.get e
   have h:d.own=true:=h
   rw[hx]at h;cases h
  | o j =>
   obtain⟨ov,e1,e2⟩:=s.get e
   exact⟨j,rfl,h,by rw[n0l,e];rfl,by rw[e1,show _=ov from e2]⟩
theorem l0p {x:Option (Option V)}{a:Addr}(h:some (x.getD none)=some (some (V.ref a))):x=some (some (.ref a)):=by
 cases x with
 | none=>simp at h
 | some y=>simpa using h
theorem c0w (s:Srcs K F σ ρ H ovs rs){a:Addr}(h:b0c ovs (rs.map (c0l ρ)) a):∃k j:Nat,rs[k]? = some (R.o j)/\(gt ρ j).own=true/\σ[j]? = some (some (V.ref a))/\ovs[k]? = some (some (V.ref a)):=by
 obtain⟨k,hk,e⟩:=h
 obtain⟨j,e1,e2,e3,e4⟩:=o0i s hk
 rw[e]at e4
 exact⟨k,j,e1,e2,l0p e4.symm,e⟩
theorem s0q (r:Rel K F σ ρ H)(s:Srcs K F σ ρ H ovs rs):hs (f0m F σ ρ H ovs (rs.map (c0l ρ))) ovs (rs.map (c0l ρ))=hs F σ ρ:=by
 funext a
 apply propext
 constructor
 ·rintro((h | h) | h)
  ·exact .inl h
  ·exact .inr h.1
  ·obtain⟨k,j,e1,e2,e3,_⟩:=c0w s h
   exact .inr ⟨j,e2,e3⟩
 ·rintro(h | h)
  ·exact .inl (.inl h)
  ·by_cases q:b0c ovs (rs.map (c0l ρ)) a
   ·exact .inr q
   ·exact .inl (.inr ⟨h,q⟩)
theorem Rel.sub (r:Rel K F σ ρ H)(s:Srcs K F σ ρ H ovs rs)(hd:dis rs=true):Rel K (f0m F σ ρ H ovs (rs.map (c0l ρ))) ovs (rs.map (c0l ρ)) H:=by
 refine⟨by rw[s.length,List.length_map],fun a o e _=>e,fun a z=>?_,fun a h z=>?_,fun i a hi e=>.inl ⟨⟨hi,e⟩,i,hi,e⟩,fun i a h=>?_,fun a h=>?_,fun a h=>?_,fun i j a hi hj ei ej=>?_,fun k=>?_⟩
 ·rcases z with z | z
  ·exact r.zl a z
  ·exact l0g r z.1
 ·obtain⟨k,j,e1,e2,e3,_⟩:=c0w s h
  rcases z with z | z
  ·exact r.zo a ⟨j,e2,e3⟩ z
  ·exact z.2 h
 ·rcases h with h | h
  ·exact h.2
  ·exact h.elim
 ·obtain⟨k,j,e1,e2,e3,_⟩:=c0w s h
  exact e0i r ⟨j,e2,e3⟩
 ·obtain⟨k,j,e1,e2,e3,_⟩:=c0w s h
  exact e0i r ⟨j,e2,e3⟩
 ·obtain⟨p,a1,a2,a3,a4⟩:=o0i s hi
  obtain⟨p',b1,b2,b3,b4⟩:=o0i s hj
  rw[ei]at a4
  rw[ej]at b4
  have:p=p':=r.nd p p' a a2 b2 (l0p a4.symm) (l0p b4.symm)
  subst this
  exact w0p hd a1 b1
 ·rw[s0q r s,n0l]
  cases e:rs[k]? with
  | none=>trivial
  | some x =>
   obtain⟨ov,e1,e2⟩:=s.get e
   cases x with
   | n d=>trivial
   | t d=>trivial
   | x d=>obtain⟨v,e3,_,e4⟩:=e2;rw[e1,e3];exact e4
   | d d=>obtain⟨v,e3,e4⟩:=e2;rw[e1,e3];exact⟨v,rfl,e4⟩
   | o j =>
    rw[e1]
    have q:=r.sl j
    show SvOk K _ H (some ov) (gt ρ j)
    rw[<- show(σ[j]?).getD none=ov from e2]
    cases e5:σ[j]? with
    | none =>
     rw[e5]at q
     cases hg:gt ρ j with
     | un=>trivial
     | vl d=>rw[hg]at q;obtain⟨x,z,_⟩:=q;cases z
     | ow d=>rw[hg]at q;obtain⟨x,_,z,_⟩:=q;cases z
     | tp d=>rw[hg]at q;obtain⟨x,_,_,_,_,z,_⟩:=q;cases z
     | dk d=>rw[hg]at q;obtain⟨x,_,z,_⟩:=q;cases z
     | dt d=>rw[hg]at q;obtain⟨x,_,z,_⟩:=q;cases z
     | ex d m=>rw[hg]at q;obtain⟨x,_,z,_⟩:=q;cases z
     | sc d=>rw[hg]at q;obtain⟨x,z,_⟩:=q;cases z
     | px d m k=>rw[hg]at q;obtain⟨x,_,_,_,z,_⟩:=q;cases z
     | xl es=>rw[hg]at q;obtain⟨x,_,z,_⟩:=q;cases z
    | some y=>rw[e5]at q;exact q
theorem Rel.back (r:Rel K F σ ρ H)(s:Srcs K F σ ρ H ovs rs)(hd:dis rs=true){ss':En}(r':Rel K (f0m F σ ρ H ovs (rs.map (c0l ρ))) ovs ss' H')(sb:∀i,(gt ss' i).own=true->(gt (rs.map (c0l ρ)) i).own=true) :
  Rel K F σ (L2.back ρ rs ss') H'/\Kp σ ρ (L2.back ρ rs ss') H H'/\Same (hid H' (hs (f0m F σ ρ H ovs (rs.map (c0l ρ))) ovs ss')) (hid H' (hs F σ (L2.back ρ rs ss'))):=by
 have ln:ss'.length=rs.length:=by rw[<- r'.len,s.length]
 have cs:∀i:Nat,(∃k:Nat,rs[k]? = some (R.o i)/\i<ρ.length/\gt (L2.back ρ rs ss') i=gt ss' k)∨((∀k:Nat,i<ρ.length->rs[k]? ≠ some (R.o i))/\gt (L2.back ρ rs ss') i=gt ρ i):=fun i=>by
  by_cases hi:i<ρ.length
  ·by_cases q:∃k:Nat,rs[k]? = some (R.o i)
   ·obtain⟨k,e⟩:=q
    exact .inl ⟨k,e,hi,h0f rs ρ ss' i k hd e ln hi⟩
   ·exact .inr ⟨fun k _ z=>q ⟨k,z⟩,g0c rs ρ ss' i fun k z=>q ⟨k,z⟩⟩
  ·refine .inr ⟨fun k z=>absurd z hi,?_⟩
   rw[g0o _ i (by rw[e0r];omega),g0o _ i (by omega)]
 have own':∀i,(gt (L2.back ρ rs ss') i).own=true->(gt ρ i).own=true:=fun i h=>by
  rcases cs i with⟨k,e,hi,g⟩ | ⟨_,g⟩
  ·rw[g]at h
   have:=sb k h
   rw[n0l,e]at this
   exact this
  ·rw[g]at h;exact h
 have subo:∀ {a},b0c σ (L2.back ρ rs ss') a->b0c σ ρ a:=fun⟨i,hi,e⟩=>⟨i,own' i hi,e⟩
 have no:∀a,¬b0c σ ρ a->¬b0c ovs (rs.map (c0l ρ)) a:=fun a h z=>by
  obtain⟨k,j,e1,e2,e3,_⟩:=c0w s z
  exact h ⟨j,e2,e3⟩
 have st:∀a o,H a=some o->¬b0c ovs (rs.map (c0l ρ)) a->H' a=some o:=fun a o e n=>r'.fr a o e n
 have hsub:∀a,hs F σ (L2.back ρ rs ss') a->hs (f0m F σ ρ H ovs (rs.map (c0l ρ))) ovs ss' a:=fun a h=>by
  rcases h with h | ⟨i,hi,e⟩
  ·exact .inl (.inl h)
  ·rcases cs i with⟨k,e1,hl,g⟩ | ⟨n,g⟩
   ·right
    rw[g]at hi
    obtain⟨ov,q1,q2⟩:=s.get e1
    refine⟨k,hi,?_⟩
    rw[q1,<- show(σ[i]?).getD none=ov from q2,e]
    rfl
   ·left;right
    rw[g]at hi
    refine⟨⟨i,hi,e⟩,fun z=>?_⟩
    obtain⟨k,j,e1,e2,e3,_⟩:=c0w s z
    have:i=j:=r.nd i j a hi e2 e e3
    subst this
    exact n k (k0b hi) e1
 have v1:Same (hid H' (hs (f0m F σ ρ H ovs (rs.map (c0l ρ))) ovs ss')) (hid H' (hs F σ (L2.back ρ rs ss'))):=a0y fun a o e n=>⟨e,fun z=>n (hsub a z)⟩
 have v2:Same (hid H (hs F σ ρ)) (hid H' (hs F σ (L2.back ρ rs ss'))):=a0y fun a o e n=>⟨st a o e (no a fun z=>n (.inr z)),fun z=>n (z.imp id subo)⟩
 refine⟨⟨by rw[e0r,r.len],fun a o e n=>?_,fun a z=>r'.zl a (.inl z),fun a h=>r.zo a (subo h),fun i a hi e=>r.ow i a (own' i hi) e,r.mi,r.ml,fun a z=>?_,fun i j a hi hj ei ej=>r.nd i j a (own' i hi) (own' j hj) ei ej,fun i=>?_⟩,⟨fun a o e n=>st a o e (no a n),own'⟩,v1⟩
 ·have e1:=r.fr a o e n
  refine st a o e1 fun z=>?_
  obtain⟨k,j,h1,h2,h3,_⟩:=c0w s z
  rcases r.ow j a h2 h3 with q | q
  ·exact n q.2
  ·rw[e]at q;cases q
 ·by_cases q:b0c ovs (rs.map (c0l ρ)) a
  ·exact r'.ma a q
  ·cases h:H a with
   | none=>exact absurd h (r.ma a z)
   | some o=>rw[st a o h q];exact fun z=>nomatch z
 ·rcases cs i with⟨k,e1,hl,g⟩ | ⟨n,g⟩
  ·rw[g]
   have q:=(r'.sl k).keep v1 fun _ _ _ _ e=>e
   obtain⟨ov,q1,q2⟩:=s.get e1
   rw[q1,<- show(σ[i]?).getD none=ov from q2]at q
   cases e5:σ[i]? with
   | none =>
    rw[e5]at q
    cases hg:gt ss' k with
    | un=>trivial
    | vl d=>rw[hg]at q;obtain⟨x,z,_⟩:=q;cases z
    | ow d=>rw[hg]at q;obtain⟨x,_,z,_⟩:=q;cases z
    | tp d=>rw[hg]at q;obtain⟨x,_,_,_,_,z,_⟩:=q;cases z
    | dk d=>rw[hg]at q;obtain⟨x,_,z,_⟩:=q;cases z
    | dt d=>rw[hg]at q;obtain⟨x,_,z,_⟩:=q;cases z
    | ex d m=>rw[hg]at q;obtain⟨x,_,z,_⟩:=q;cases z
    | sc d=>rw[hg]at q;obtain⟨x,z,_⟩:=q;cases z
    | px d m k=>rw[hg]at q;obtain⟨x,_,_,_,z,_⟩:=q;cases z
    | xl es=>rw[hg]at q;obtain⟨x,_,z,_⟩:=q;cases z
   | some y=>rw[e5]at q;exact q
  ·rw[g]
   refine(r.sl i).keep v2 fun l o ho e h=>st l o h fun z=>?_
   obtain⟨k,j,e1,e2,e3,_⟩:=c0w s z
   have:i=j:=r.nd i j l ho e2 e e3
   subst this
   exact n k (k0b ho) e1
end
abbrev ASp:=En->Ko->Prop
def F0 (vs:List V)(ss:En)(H:Hp)(Z:Addr->Prop):Fr:=⟨H,Z,fun a=>b0c (vs.map some) ss a,fun i a=>(gt ss i).own=true/\(vs.map some)[i]? = some (some (.ref a)),fun _ _=>False⟩
def spA (K:PySem.W.Frag)(S:ASp):Sp:=fun vs H Q _=>∃ss Z q,Rel K (F0 vs ss H Z) (vs.map some) ss H/\S ss q /\
 ∀r ss' v H',q r ss'->(∀i,(gt ss' i).own=true->(gt ss i).own=true)->(∀i,r ≠ .o i)->RelR K (F0 vs ss H Z) (vs.map some) ss' v H' r->Q v H'
def e1i (S:ASp)(as:AA):AE:=fun ρ q=>as ρ fun rs ρ1=>dis rs=true/\S (rs.map (c0l ρ1)) fun r ss'=>q r (back ρ1 rs ss')
section
variable {K:PySem.W.Frag}{F:Fr}{σ:St}{ρ ρ':En}{H H':Hp}{ovs:St}{rs:List R}
theorem InFs.srcs {vs:List V}(h:InFs K F σ ρ H vs rs):Srcs K F σ ρ H (vs.map some) rs:=by
 induction h with
 | nil=>exact .nil
 | cons a t ih =>
  rename_i v r vs rs
  refine .cons ?_ ih
  cases r with
  | d d=>exact⟨v,rfl,a⟩
  | o j=>show(σ[j]?).getD none=some v;rw[show σ[j]? = _ from a];rfl
  | n s=>trivial
  | t n=>trivial
  | x n=>exact⟨v,rfl,a⟩
theorem a0p {S:ASp}{E:XK}{ts:TA}{as:AA}(hs':TAok K ts as):TEok K (r0h (spA K S) [] E ts) (e1i S as):=by
 intro F σ ρ H q Q r h k
 refine hs' F σ ρ H _ _ r h fun rs ρ1 vs H1 h1 r1 i1 k1=>?_
 obtain⟨hd,hS⟩:=h1
 have s:=i1.srcs
 rw[List.append_nil]
 refine⟨rs.map (c0l ρ1),(f0m F σ ρ1 H1 (vs.map some) (rs.map (c0l ρ1))).Z,_,r1.sub s hd,hS,fun rr ss' v H' hq sb no out=>?_⟩
 refine(k.after k1) rr (back ρ1 rs ss') v H' hq ?_
 cases rr with
 | o i=>exact absurd rfl (no i)
 | d d =>
  obtain⟨a,b⟩:=out
  obtain⟨x,y,z⟩:=r1.back s hd a sb
  exact⟨x,y,RepD.same b z⟩
 | x sv =>
  obtain⟨a,b,c⟩:=out
  obtain⟨x,y,z⟩:=r1.back s hd a sb
  exact⟨x,y,b,c.keep z fun l o ho=>by rw[b]at ho;cases ho⟩
 | t n =>
  obtain⟨a,b⟩:=out
  obtain⟨x,y,z⟩:=r1.back s hd a sb
  exact⟨x,y,b⟩
 | n sv =>
  obtain⟨Hb,l,o,a,b,c,e1,e2,e3⟩:=out
  obtain⟨x,y,z⟩:=r1.back s hd a sb
  exact⟨Hb,l,o,x,y,b,c.keep z fun _ _ _ _ e=>e,e1,e2,e3⟩
end
section
variable {K:PySem.W.Frag}{F:Fr}{σ σ':St}{ρ ρ':En}{H H':Hp}
open Classical in
noncomputable def rebase (F:Fr)(σ:St)(ρ:En)(H:Hp)(pin:Nat->Bool):Fr :=
 ⟨fun a=>if b0c σ ρ a/\F.H0 a=none then none else H a,F.Z,fun a=>F.M a/\b0c σ ρ a,F.I,fun i a=>F.P i a∨(pin i=true/\σ[i]? = some (some (.ref a)))⟩
open Classical in
theorem i0f {pin:Nat->Bool}{a:Addr}{o:HO}(h:¬(b0c σ ρ a/\F.H0 a=none))(e:H a=some o):(rebase F σ ρ H pin).H0 a=some o:=by
 show(if b0c σ ρ a/\F.H0 a=none then none else H a)=some o
 rw[if_neg h];exact e
open Classical in
theorem b1q {pin:Nat->Bool}{a:Addr}{o:HO}(e:(rebase F σ ρ H pin).H0 a=some o):H a=some o:=by
 have e':(if b0c σ ρ a/\F.H0 a=none then none else H a)=some o:=e
 split at e'
 ·cases e'
 ·exact e'
open Classical in
theorem Rel.rebase (r:Rel K F σ ρ H)(pin:Nat->Bool):Rel K (L2.rebase F σ ρ H pin) σ ρ H where
 len:=r.len
 fr:=fun a o e _=>b1q e
 zl:=r.zl
 zo:=r.zo
 ow:=fun i a hi e=>by
  rcases r.ow i a hi e with⟨h1,h2⟩ | h
  ·exact .inl ⟨h1,h2,i,hi,e⟩
  ·refine .inr ?_
   show(if b0c σ ρ a/\F.H0 a=none then none else H a)=none
   rw[if_pos ⟨⟨i,hi,e⟩,h⟩]
 mi:=fun i a h=>by
  rcases h with h | h | h
  ·exact r.mi i a (.inl h)
  ·exact r.mi i a (.inr h)
  ·exact h.2
 ml:=fun a h=>by
  cases e:H a with
  | none=>exact absurd e (r.ma a h.1)
  | some o=>rw[i0f (fun z=>r.ml a h.1 z.2) e];exact fun z=>nomatch z
 ma:=fun a h=>r.ma a h.1
 nd:=r.nd
 sl:=r.sl
theorem Rel.unbase {pin:Nat->Bool}(r:Rel K F σ ρ H)(r':Rel K (L2.rebase F σ ρ H pin) σ' ρ' H'):Rel K F σ' ρ' H'/\Same (hid H (hs F σ ρ)) (hid H' (hs F σ' ρ')):=by
 refine⟨⟨r'.len,fun a o e n=>?_,r'.zl,r'.zo,fun i a hi e=>?_,fun i a h=>r'.mi i a (h.imp id .inl),r.ml,fun a h=>?_,r'.nd,r'.sl⟩,a0y fun a o e n=>?_⟩
 ·exact r'.fr a o (i0f (fun z=>by rw[e]at z;cases z.2) (r.fr a o e n)) fun z=>n z.1
 ·rcases r'.ow i a hi e with⟨h1,h2⟩ | h
  ·exact .inl ⟨h1,h2.1⟩
  ·right
   cases h0:F.H0 a with
   | none=>rfl
   | some o =>
    exfalso
    have nn:H a≠none:=by
     by_cases q:F.M a
     ·exact r.ma a q
     ·rw[r.fr a o h0 q];exact fun z=>nomatch z
    cases e2:H a with
    | none=>exact nn e2
    | some u =>
     rw[i0f (fun z=>by rw[h0]at z;cases z.2) e2]at h
     cases h
 ·by_cases q:b0c σ ρ a
  ·exact r'.ma a ⟨h,q⟩
  ·cases e:H a with
   | none=>exact absurd e (r.ma a h)
   | some o=>rw[r'.fr a o (i0f (fun z=>q z.1) e) fun z=>q z.2];exact fun z=>nomatch z
 ·have n':¬b0c σ ρ a:=fun z=>n (.inr z)
  have e0:=i0f (F:=F) (pin:=pin) (fun z=>n' z.1) e
  refine⟨r'.fr a o e0 fun z=>n' z.2,fun z=>?_⟩
  rcases z with z | ⟨i,hi,ei⟩
  ·exact n (.inl z)
  ·rcases r'.ow i a hi ei with⟨_,h2⟩ | h
   ·exact n' h2.2
   ·rw[e0]at h;cases h
theorem RelR.unbase {pin:Nat->Bool}{v:V}{rr:R}(r:Rel K F σ ρ H)(r':RelR K (L2.rebase F σ ρ H pin) σ' ρ' v H' rr):RelR K F σ' ρ' v H' rr:=by
 cases rr with
 | d d=>exact⟨(r.unbase r'.1).1,r'.2⟩
 | o d=>exact⟨(r.unbase r'.1).1,r'.2⟩
 | t d=>exact⟨(r.unbase r'.1).1,r'.2⟩
 | x d=>exact⟨(r.unbase r'.1).1,r'.2⟩
 | n s =>
  obtain⟨Hb,l,o,a,b,c,e⟩:=r'
  exact⟨Hb,l,o,(r.unbase a).1,b,c,e⟩
end
structure d1l (K:PySem.W.Frag)(F:Fr)(D:Ends)(e:o0f):Prop where
 nx:∀ σ' ρ' H',e.nx ρ'->Rel K F σ' ρ' H'->D.nx σ' H'
 bk:∀ σ' ρ' H',e.bk ρ'->Rel K F σ' ρ' H'->D.bk σ' H'
 ct:∀ σ' ρ' H',e.ct ρ'->Rel K F σ' ρ' H'->D.ct σ' H'
 rt:∀ σ' ρ' r v H',e.rt r ρ'->RelR K F σ' ρ' v H' r->D.rt v H'
def TSok (K:PySem.W.Frag)(pr:Nat->Bool)(t:TS)(a:AS):Prop:=∀F σ ρ H D e,(∀i a,F.pin i a->pr i=true)->Rel K F σ ρ H->a e ρ->d1l K F D e->t D σ H
abbrev AG:=D->En->(En->Prop)->Prop
abbrev AGs:=List D->En->(En->Prop)->Prop
def TGok (K:PySem.W.Frag)(pr:Nat->Bool)(g:TG)(ag:AG):Prop:=∀F σ ρ H v d k Q,(∀i a,F.pin i a->pr i=true)->Rel K F σ ρ H->RepD K (hid H (hs F σ ρ)) v d->ag d ρ k ->
 (∀ σ' ρ',k ρ'->Rel K F σ' ρ' H->σ'.length=σ.length->(∀i,pr i=true->σ'[i]? = σ[i]?)->(∀i,(gt ρ' i).own=true->(gt ρ i).own=true/\σ'[i]? = σ[i]?)->Q σ' H)->g v σ H Q
def w0u (K:PySem.W.Frag)(pr:Nat->Bool)(n:Nat)(g:TGs)(ag:AGs):Prop:=(∀ds ρ k,ag ds ρ k->ds.length=n)/\∀F σ ρ H vs ds k Q,(∀i a,F.pin i a->pr i=true)->Rel K F σ ρ H->RepDs K (hid H (hs F σ ρ)) vs ds->ag ds ρ k ->
 (∀ σ' ρ',k ρ'->Rel K F σ' ρ' H->σ'.length=σ.length->(∀i,pr i=true->σ'[i]? = σ[i]?)->(∀i,(gt ρ' i).own=true->(gt ρ i).own=true/\σ'[i]? = σ[i]?)->Q σ' H)->g vs σ H Q
section
variable {K:PySem.W.Frag}{pr:Nat->Bool}{t u:TS}{a b:AS}{te:TE}{ae:AE}{tt:TT}{at':AT}
theorem z0b {F:Fr}{i:Nat}(hp:∀i a,F.pin i a->pr i=true)(h:pr i=false):∀a,¬F.pin i a:=fun a z=>by rw[hp i a z]at h;cases h
def q0n (i:Nat):AG:=fun d ρ k=>k (pt ρ i (.vl d))
theorem a0s {i:Nat}(h:pr i=false):TGok K pr (p0e i) (q0n i):=by
 intro F σ ρ H v d k Q hp r hd ha kk
 refine kk _ _ ha (r.set hd (z0b hp h)) (by rw[List.length_set]) (fun j hj=>?_) fun j hj=>?_
 ·rw[List.getElem?_set_ne];rintro rfl;rw[h]at hj;cases hj
 ·obtain⟨ne,q⟩:=f0w rfl hj
  exact⟨q,by rw[List.getElem?_set_ne ne]⟩
def gaNil:AGs:=fun ds ρ k=>match ds with
 | []=>k ρ
 | _=>False
def u0i (g:AG)(gs:AGs):AGs:=fun ds ρ k=>match ds with
 | d::r=>g d ρ fun ρ1=>gs r ρ1 k
 | []=>False
theorem i0c:w0u K pr 0 gNil gaNil:=by
 refine⟨fun ds ρ k h=>?_,?_⟩
 ·cases ds with
  | nil=>rfl
  | cons _ _=>exact h.elim
 intro F σ ρ H vs ds k Q hp r hd ha kk
 cases ds with
 | cons _ _=>exact ha.elim
 | nil =>
  cases vs with
  | nil=>exact⟨rfl,kk _ _ ha r rfl (fun _ _=>rfl) fun _ h=>⟨h,rfl⟩⟩
  | cons v vs=>unfold RepDs at hd;exact hd.elim
theorem y0y {F:Fr}{σ σ':St}{ρ ρ':En}{H:Hp}(h:∀i,(gt ρ' i).own=true->(gt ρ i).own=true/\σ'[i]? = σ[i]?):Same (hid H (hs F σ ρ)) (hid H (hs F σ' ρ')):=a0y fun a o e n=>⟨e,fun z=>by
 rcases z with z | ⟨i,hi,ei⟩
 ·exact n (.inl z)
 ·obtain⟨q1,q2⟩:=h i hi
  exact n (.inr ⟨i,q1,q2▸ei⟩)⟩
theorem d0j {g:TG}{gs:TGs}{ag:AG}{ags:AGs}{n:Nat}(h:TGok K pr g ag)(hs':w0u K pr n gs ags)(gl:∀d ρ k,ag d ρ k->∃ ρ',k ρ'):w0u K pr (n+1) (d1b g gs) (u0i ag ags):=by
 refine⟨fun ds ρ k ha=>?_,?_⟩
 ·cases ds with
  | nil=>exact ha.elim
  | cons d ds=>obtain⟨ρ',q⟩:=gl _ _ _ ha;rw[List.length_cons,hs'.1 _ _ _ q]
 intro F σ ρ H vs ds k Q hp r hd ha kk
 cases ds with
 | nil=>exact ha.elim
 | cons d ds =>
  cases vs with
  | nil=>unfold RepDs at hd;exact hd.elim
  | cons v vs =>
   unfold RepDs at hd
   refine⟨v,vs,rfl,h F σ ρ H v d _ _ hp r hd.1 ha fun σ1 ρ1 h1 r1 l1 p1 o1=>?_⟩
   refine hs'.2 F σ1 ρ1 H vs ds _ _ hp r1 (hd.2.same (y0y o1)) h1 fun σ2 ρ2 h2 r2 l2 p2 o2=>?_
   refine kk _ _ h2 r2 (l2.trans l1) (fun i hi=>(p2 i hi).trans (p1 i hi)) fun i hi=>?_
   obtain⟨a1,a2⟩:=o2 i hi
   obtain⟨b1,b2⟩:=o1 i a1
   exact⟨b1,a2.trans b2⟩
def z0p (n:Nat)(gs:AGs):AG:=fun d ρ k=>match d with
 | .tup ds=>gs ds ρ k
 | _=>False
theorem h0a {i:Nat}{d:D}{ρ:En}{k:En->Prop}(h:q0n i d ρ k):∃ ρ',k ρ':=⟨_,h⟩
theorem k0w {gs:TGs}{ags:AGs}{n:Nat}(hs':w0u K pr n gs ags):TGok K pr (gTup K n gs) (z0p n ags):=by
 intro F σ ρ H v d k Q hp r hd ha kk
 unfold z0p at ha
 split at ha
 ·rename_i ds
  unfold RepD at hd
  obtain⟨p,vs,rfl,sq,rd⟩:=hd
  exact⟨p,vs,rfl,b0m.seqT sq.sq,by rw[rd.length];exact hs'.1 _ _ _ ha,hs'.2 F σ ρ H vs ds k Q hp r rd ha kk⟩
 ·exact ha.elim
def aNext:AS:=fun e ρ=>e.nx ρ
def aSeq (a b:AS):AS:=fun e ρ=>a {e with nx:=b e} ρ
theorem c0o:TSok K pr tNext aNext:=fun F σ ρ H D e hp r h k=>k.nx _ _ _ h r
theorem a0n (ha:TSok K pr t a)(hb:TSok K pr u b):TSok K pr (tSeq t u) (aSeq a b):=fun F σ ρ H D e hp r h k =>
 ha F σ ρ H _ _ hp r h ⟨fun σ' ρ' H' h' r'=>hb F σ' ρ' H' D e hp r' h' k,k.bk,k.ct,k.rt⟩
def e1f (x:AE):AS:=fun e ρ=>x ρ fun _ ρ1=>e.nx ρ1
theorem h0t (h:TEok K te ae):TSok K pr (s0o te) (e1f ae):=fun F σ ρ H D e hp r ha k =>
 h F σ ρ H _ _ r ha fun r1 ρ1 v H1 h1 o=>k.nx _ _ _ h1 o.inF.1
def aRet (x:AE):AS:=fun e ρ=>x ρ e.rt
theorem b0o (h:TEok K te ae):TSok K pr (tRet te) (aRet ae):=fun F σ ρ H D e hp r ha k =>
 h F σ ρ H _ _ r ha fun r1 ρ1 v H1 h1 o=>k.rt _ _ _ _ _ h1 o.rel
def aIfS (c:AT)(a b:AS):AS:=fun e ρ=>c ρ fun k ρ1=>if k=true then a e ρ1 else b e ρ1
theorem e0x (hc:TTok K tt at')(ha:TSok K pr t a)(hb:TSok K pr u b):TSok K pr (tIfS tt t u) (aIfS at' a b):=by
 intro F σ ρ H D e hp r h k
 refine hc F σ ρ H _ _ r h fun c ρ1 H1 h1 r1 k1=>?_
 cases c with
 | true=>exact ha F σ ρ1 H1 D e hp r1 h1 k
 | false=>exact hb F σ ρ1 H1 D e hp r1 h1 k
def stS (i:Nat):R->En->(En->Prop)->Prop
 | .d d,ρ,k=>k (pt ρ i (.vl d))
 | .n s,ρ,k=>k (pt ρ i s)
 | .o j,ρ,k=>(match gt ρ j with
  | .ow ds=>k (pt (pt ρ j (.vl (.lst ds))) i (.vl (.lst ds)))
  | .vl d=>k (pt ρ i (.vl d))
  | .ex C fs=>k (pt ρ i (.ex C fs))
  | _=>False)
 | .t _,_,_=>False
 | .x s,ρ,k=>k (pt ρ i s)
def aSet (i:Nat)(x:AE):AS:=fun e ρ=>x ρ fun r ρ1=>stS i r ρ1 e.nx
theorem x0k {i:Nat}(hi:pr i=false)(h:TEok K te ae):TSok K pr (fun D σ H=>te σ H fun v H'=>D.nx (σ.set i (some v)) H') (aSet i ae):=by
 intro F σ ρ H D e hp r ha k
 refine h F σ ρ H _ _ r ha fun r1 ρ1 v H1 h1 o=>?_
 have np:=z0b hp hi
 cases r1 with
 | d d=>exact k.nx _ _ _ h1 (o.1.set o.2.2 np)
 | t n=>exact h1.elim
 | x s=>exact k.nx _ _ _ h1 (o.1.setS o.2.2.1 o.2.2.2 np)
 | n s =>
  obtain⟨Hb,l,u,a1,a2,a3,a4,a5,rfl,rfl⟩:=o
  exact k.nx _ _ _ h1 (a1.setF a3 a4 a5 np)
 | o j =>
  obtain⟨r1,k1,ej⟩:=o
  have h2:(match gt ρ1 j with
   | .ow ds=>e.nx (pt (pt ρ1 j (.vl (.lst ds))) i (.vl (.lst ds)))
   | .vl d=>e.nx (pt ρ1 i (.vl d))
   | .ex C fs=>e.nx (pt ρ1 i (.ex C fs))
   | _=>False):=h1
  clear h1
  split at h2
  ·rename_i ds hg
   obtain⟨l,el,r2,k2,rd⟩:=r1.frz hg
   rw[ej]at el
   injection el with el;injection el with el;subst el
   exact k.nx _ _ _ h2 (r2.set rd np)
  ·rename_i d hg
   have q:=r1.sl j
   rw[hg]at q
   obtain⟨x,e1,e2⟩:=q
   rw[ej]at e1
   injection e1 with e1;injection e1 with e1;subst e1
   exact k.nx _ _ _ h2 (r1.set e2 np)
  ·rename_i C fs hg
   have q:=r1.sl j
   rw[hg,ej]at q
   exact k.nx _ _ _ h2 (r1.setS rfl q np)
  ·exact h2.elim
theorem a0u {i:Nat}(h:TEok K te ae)(hi:pr i=false):TSok K pr (tAsg te (p0e i)) (aSet i ae):=x0k hi h
theorem k0y {i n:Nat}{js:List Nat}{wi:TI}{g:TG}{tc:TT}(h:TEok K (r0g n js wi g tc te) ae)(hi:pr i=false):TSok K pr (fun D σ H=>r0g n js wi g tc te σ H fun v H'=>D.nx (σ.set i (some v)) H') (aSet i ae):=x0k hi h
def aAsg (x:AE)(g:AG):AS:=fun e ρ=>x ρ fun r ρ1=>sto [r.frz] ρ1 fun ds ρ2=>match ds with
 | [d]=>g d ρ2 e.nx
 | _=>False
theorem y0o {g:TG}{ag:AG}(h:TEok K te ae)(hg:TGok K pr g ag):TSok K pr (tAsg te g) (aAsg ae ag):=by
 intro F σ ρ H D e hp r ha k
 refine h F σ ρ H _ _ r ha fun r1 ρ1 v H1 h1 o=>?_
 obtain⟨r',k1,i1⟩:=o.inF
 obtain⟨ds,ρ2,h2,r2,k2,rd⟩:=h0h r' (.cons i1 .nil) h1
 split at h2
 ·rename_i d
  unfold RepDs at rd
  exact hg F σ ρ2 H1 v d _ _ hp r2 rd.1 h2 fun σ3 ρ3 h3 r3 _ _ _=>k.nx _ _ _ h3 r3
 ·exact h2.elim
def aAug (i:Nat)(x:AE)(f:Int->Int->Int):AS:=fun e ρ=>match gt ρ i with
 | .vl (.int p)=>x ρ fun r ρ1=>(match r with
  | .d (.int y)=>e.nx (pt ρ1 i (.vl (.int (f p y))))
  | _=>False)
 | _=>False
theorem y0n {i:Nat}{f:Int->Int->Int}(h:TEok K te ae)(hi:pr i=false):TSok K pr (tAug i te (ipI f)) (aAug i ae f):=by
 intro F σ ρ H D e hp r ha k
 unfold aAug at ha
 split at ha
 ·rename_i p hg
  have q:=r.sl i
  rw[hg]at q
  obtain⟨x,e1,e2⟩:=q
  unfold RepD at e2;subst e2
  refine⟨_,e1,h F σ ρ H _ _ r ha fun r1 ρ1 v H1 h1 o=>?_⟩
  obtain⟨r',k1,i1⟩:=o.inF
  split at h1
  ·exact⟨_,_,rfl,i1.int,k.nx _ _ _ h1 (r'.set (by unfold RepD;rfl) (z0b hp hi))⟩
  ·exact h1.elim
 ·exact ha.elim
def whA (c:AT)(b:AS)(e:o0f):Nat->En->Prop
 | 0,_=>False
 | n+1,ρ=>c ρ fun k ρ1=>if k=true then b {nx:=whA c b e n,ct:=whA c b e n,bk:=e.nx,rt:=e.rt} ρ1 else e.nx ρ1
def y0a (c:AT)(b:AS):AS:=fun e ρ=>∃n,whA c b e n ρ
theorem s0u (hc:TTok K tt at')(hb:TSok K pr t a):TSok K pr (x0i tt t) (y0a at' a):=by
 intro F σ ρ H D e hp r ha k
 obtain⟨n,ha⟩:=ha
 refine⟨fun m σ H=>∃ ρ,Rel K F σ ρ H/\whA at' a e m ρ,⟨n,ρ,r,ha⟩,fun m σ H ⟨ρ,r,h⟩=>?_⟩
 cases m with
 | zero=>exact h.elim
 | succ m =>
  refine hc F σ ρ H _ _ r h fun c ρ1 H1 h1 r1 k1=>?_
  cases c with
  | false=>exact k.nx _ _ _ h1 r1
  | true =>
   refine⟨fun σ' H'=>∃ ρ',Rel K F σ' ρ' H'/\whA at' a e m ρ',fun σ' H' h'=>⟨m,Nat.lt_succ_self m,h'⟩,?_⟩
   exact hb F σ ρ1 H1 _ _ hp r1 h1 ⟨fun σ' ρ' H' h' r'=>⟨ρ',r',h'⟩,k.nx,fun σ' ρ' H' h' r'=>⟨ρ',r',h'⟩,k.rt⟩
abbrev AI:=En->(List D->(En->Prop)->En->Prop)->Prop
def WkAt (K:PySem.W.Frag)(S:Addr->Prop)(H:Hp)(J:It)(ds:List D):Prop:=∀k:Nat,(∀d,ds[k]? = some d->J.go k H/\∀x H',J.yld k H x H'->Same H H'/\RepD K (hid H' S) x d)/\(ds.length<=k->J.stop k H)
def TIok (K:PySem.W.Frag)(pin:Nat->Bool)(wi:TI)(ai:AI):Prop:=∀F σ ρ H q Rk,Rel K F σ ρ H->ai ρ q->(∀ds c ρ' J H',q ds c ρ'->Rel K F σ ρ' H'->Kp σ ρ ρ' H H' ->
 (∀ σ2 ρ2 H2,Same (hid H' (hs F σ ρ')) (hid H2 (hs F σ2 ρ2))->(∀i,SvOk K (hid H2 (hs F σ2 ρ2)) H2 σ2[i]? (gt ρ2 i))->(∀j a,pin j=true->σ[j]? = some (some (.ref a))->σ2[j]? = some (some (.ref a)))->(∀a,hs F σ2 ρ2 a->Nt H2 a)->c ρ2->WkAt K (hs F σ2 ρ2) H2 J ds)->Rk J H')->wi σ H Rk
def rngD (lo:Int)(n:Nat):List D:=(List.range n).map fun(i:Nat)=>D.int (lo+(i:Nat))
theorem c0e (lo:Int)(n:Nat):(rngD lo n).length=n:=by simp[rngD]
theorem a1y {S:Addr->Prop}{H:Hp}{lo:Int}{n:Nat}:WkAt K S H (Itr lo n) (rngD lo n):=by
 intro k
 constructor
 ·intro d h
  unfold rngD at h
  rw[List.getElem?_map]at h
  obtain⟨j,e1,e2⟩:=Option.map_eq_some_iff.mp h
  have lt:k<n:=by
   rcases Nat.lt_or_ge k n with q | q
   ·exact q
   ·rw[List.getElem?_eq_none (by simpa using q)]at e1;cases e1
  rw[List.getElem?_range lt]at e1
  cases e1
  refine⟨lt,fun x H' z=>⟨z.1▸Same.refl H,?_⟩⟩
  rw[z.2,<- e2]
  unfold RepD;rfl
 ·intro h;rw[c0e]at h;exact h
def e1d (as:AA):AI:=fun ρ q=>as ρ fun rs ρ1=>match rs with
 | [.d (.int j)]=>(-(2^62)<=j/\j<2^62)/\q (rngD 0 j.toNat) (fun _=>True) ρ1
 | _=>False
theorem c0n {pin:Nat->Bool}{ta:TA}{as:AA}(h:TAok K ta as):TIok K pin (c1w ta) (e1d as):=by
 intro F σ ρ H q Rk r ha k
 refine h F σ ρ H _ _ r ha fun rs ρ1 vs H1 h1 r1 i1 k1=>?_
 split at h1
 ·obtain⟨x,rfl,i⟩:=i1.one
  exact⟨_,by rw[i.int],h1.1.1,h1.1.2,k _ _ _ _ _ h1.2 r1 k1 fun _ _ _ _ _ _ _ _=>a1y⟩
 ·exact h1.elim
def iSeq (K:PySem.W.Frag)(tl:TE):TI:=fun σ H R=>tl σ H fun x H1=>∃a,x = .ref a/\(((∃xs,SqL K H1 a xs)/\R (Itl K a) H1)∨((∃xs,SqT K H1 a xs)/\R (Itt K a) H1))
theorem b1w {X:Cx}{tg l:Expr}{tl:TE}(hl:PE X l tl):PI X tg l (iSeq X.K tl):=by
 intro pins s σ H R I h
 refine thn (hl pins s σ H _ I h) fun v s1 ⟨x,H1,I1,r1,q1⟩=>?_
 obtain⟨a,e,⟨⟨xs,hq⟩,q⟩ | ⟨⟨xs,hq⟩,q⟩⟩:=q1
 ·subst e
  cases r1
  obtain⟨its,rv,p,hz⟩:=I1.list hq
  refine wpAny_pyIter_list p.isList ?_
  refine⟨s1.heap.objs.size,[s1.heap.objs.size],_,_,H1,rfl,I1.kept (t':=s1.toks) fun b o e=>Heap.get?_push_of_some _ e,s0b a _,⟨_,Heap.get?_push_size _ rfl,rfl,rfl⟩,fun b hb=>?_,q⟩
  have e:b=s1.heap.objs.size:=by simpa using hb
  subst e
  exact I1.fpOk (Nat.le_refl _) (I1.hok.fresh (Nat.le_refl _))
 ·subst e
  cases r1
  obtain⟨its,rv,p,hz⟩:=I1.tuple hq
  refine wpAny_pyIter_tuple (show s1.heap.IsTuple a its.toArray from p) ?_
  refine⟨s1.heap.objs.size,[s1.heap.objs.size],_,_,H1,rfl,I1.kept (t':=s1.toks) fun b o e=>Heap.get?_push_of_some _ e,r0d a _,⟨_,Heap.get?_push_size _ rfl,rfl,rfl⟩,fun b hb=>?_,q⟩
  have e:b=s1.heap.objs.size:=by simpa using hb
  subst e
  exact I1.fpOk (Nat.le_refl _) (I1.hok.fresh (Nat.le_refl _))
theorem d0m (K:PySem.W.Frag){X:Cx}{tg l:Expr}{tl:TE}(hl:PE X l tl)(hK:X.K=K:=by rfl):PI X tg l (iSeq K tl):=by subst hK;exact b1w hl
theorem x0g {S:Addr->Prop}{H:Hp}{a:Addr}{vs:List V}{ds:List D}(h:SqL K H a vs)(rd:RepDs K (hid H S) vs ds):WkAt K S H (Itl K a) ds:=by
 intro k
 constructor
 ·intro d e
  obtain⟨v,e1,rv⟩:=rd.get e
  refine⟨⟨vs,v,h,e1⟩,fun x H' z=>⟨z.1▸Same.refl H,?_⟩⟩
  have:=z.2 vs h
  rw[e1]at this;cases this;rw[z.1];exact rv
 ·intro z;exact⟨vs,h,by rw[rd.length];exact z⟩
theorem a1x {S:Addr->Prop}{H:Hp}{a:Addr}{vs:List V}{ds:List D}(h:SqT K H a vs)(rd:RepDs K (hid H S) vs ds):WkAt K S H (Itt K a) ds:=by
 intro k
 constructor
 ·intro d e
  obtain⟨v,e1,rv⟩:=rd.get e
  refine⟨⟨vs,v,h,e1⟩,fun x H' z=>⟨z.1▸Same.refl H,?_⟩⟩
  have:=z.2 vs h
  rw[e1]at this;cases this;rw[z.1];exact rv
 ·intro z;exact⟨vs,h,by rw[rd.length];exact z⟩
def e1c (pin:Nat->Bool)(x:AE):AI:=fun ρ q=>x ρ fun r ρ1=>match r.frz with
 | .d (.lst ds)=>q ds (fun _=>True) ρ1
 | .d (.tup ds)=>q ds (fun _=>True) ρ1
 | .o i=>(match gt ρ1 i with
  | .ow ds=>pin i=true/\q ds (fun ρ2=>gt ρ2 i = .ow ds) ρ1
  | _=>False)
 | _=>False
theorem c0m {pin:Nat->Bool}(h:TEok K te ae):TIok K pin (iSeq K te) (e1c pin ae):=by
 intro F σ ρ H q Rk r ha k
 refine h F σ ρ H _ _ r ha fun r1 ρ1 x H1 h1 o1=>?_
 obtain⟨r',k1,i1⟩:=o1.inF
 split at h1
 ·rename_i ds e
  rw[e]at i1
  have rd:RepD K _ x (.lst ds):=i1
  unfold RepD at rd
  obtain⟨a,vs,rfl,sq,rd⟩:=rd
  refine⟨a,rfl,.inl ⟨⟨vs,b0m.seq (StL.sq sq)⟩,k _ _ _ _ _ h1 r' k1 fun σ2 ρ2 H2 sm _ _ _ _=>?_⟩⟩
  exact x0g (b0m.seq (sm.seq (StL.sq sq))) (rd.same sm)
 ·rename_i ds e
  rw[e]at i1
  have rd:RepD K _ x (.tup ds):=i1
  unfold RepD at rd
  obtain⟨a,vs,rfl,sq,rd⟩:=rd
  refine⟨a,rfl,.inr ⟨⟨vs,b0m.seqT sq.sq⟩,k _ _ _ _ _ h1 r' k1 fun σ2 ρ2 H2 sm _ _ _ _=>?_⟩⟩
  exact a1x (b0m.seqT (sm.seqT sq.sq)) (rd.same sm)
 ·rename_i i e
  rw[e]at i1
  have ei:σ[i]? = some (some x):=i1
  split at h1
  ·rename_i ds hg
   have s:=r'.sl i
   rw[hg,ei]at s
   obtain⟨a,vs,e1,hl,rd⟩:=s
   injection e1 with e1;injection e1 with e1;subst e1
   refine⟨a,rfl,.inl ⟨⟨vs,SqL.of hl⟩,k _ _ _ _ _ h1.2 r' k1 fun σ2 ρ2 H2 sm sv pn _ hc=>?_⟩⟩
   have s2:=sv i
   rw[hc,pn i a h1.1 ei]at s2
   obtain⟨a',vs',e2,hl',rd'⟩:=s2
   injection e2 with e2;injection e2 with e2;injection e2 with e2;subst e2
   exact x0g (SqL.of hl') rd'
  ·exact h1.elim
 ·exact h1.elim
def forA (c:En->Prop)(g:AG)(b:AS)(e:o0f):List D->En->Prop
 | [],ρ=>c ρ/\e.nx ρ
 | d::ds,ρ=>c ρ/\g d ρ fun ρ1=>b {nx:=forA c g b e ds,ct:=forA c g b e ds,bk:=e.nx,rt:=e.rt} ρ1
def aFor (i:AI)(g:AG)(b:AS):AS:=fun e ρ=>i ρ fun ds c ρ1=>forA c g b e ds ρ1
theorem f0t {pin:Nat->Bool}{wi:TI}{ai:AI}{g:TG}{ag:AG}(hi:TIok K pin wi ai)(hg:TGok K (fun j=>pr j||pin j) g ag)(hb:TSok K (fun j=>pr j||pin j) t a):TSok K pr (tFor wi g t) (aFor ai ag a):=by
 intro F σ ρ H D e hp r ha k
 refine hi F σ ρ H _ _ r ha fun ds c ρ1 J H1 h1 r1 k1 wk=>?_
 have hp':∀i a,(rebase F σ ρ1 H1 pin).pin i a->(pr i||pin i)=true:=fun i a h=>by
  rcases h with h | h | h
  ·rw[hp i a (.inl h)];rfl
  ·rw[hp i a (.inr h)];rfl
  ·rw[h.1];cases pr i <;> rfl
 have ek:d1l K (rebase F σ ρ1 H1 pin) D e:=⟨fun _ _ _ h' r'=>k.nx _ _ _ h' (r1.unbase r').1,fun _ _ _ h' r'=>k.bk _ _ _ h' (r1.unbase r').1,fun _ _ _ h' r'=>k.ct _ _ _ h' (r1.unbase r').1,fun _ _ _ _ _ h' r'=>k.rt _ _ _ _ _ h' (RelR.unbase r1 r')⟩
 refine⟨fun i m σ' H'=>∃ ρ',m=ds.length - i/\i<=ds.length/\Rel K (rebase F σ ρ1 H1 pin) σ' ρ' H'/\forA c ag a e (ds.drop i) ρ',⟨ds.length,ρ1,rfl,Nat.zero_le _,r1.rebase pin,h1⟩,?_⟩
 rintro i m σ' H' ⟨ρ',rfl,hl,r',h'⟩
 have w:c ρ'->WkAt K (hs F σ' ρ') H' J ds:=fun hc=>wk σ' ρ' H' (r1.unbase r').2 r'.sl (fun j x hj ej=>r'.mi j x (.inr (.inr ⟨hj,ej⟩))) (fun a z=>w0k r' z) hc
 rcases Nat.lt_or_ge i ds.length with q | q
 ·right
  rw[List.drop_eq_getElem_cons q]at h'
  unfold forA at h'
  obtain⟨hc,h'⟩:=h'
  obtain⟨go,yld⟩:=(w hc i).1 ds[i] (List.getElem?_eq_getElem q)
  refine⟨go,fun σ2 H2=>∃ ρ2,Rel K (rebase F σ ρ1 H1 pin) σ2 ρ2 H2/\forA c ag a e (ds.drop (i+1)) ρ2,fun σ2 H2 ⟨ρ2,r2,h2⟩=>⟨ds.length - (i+1),by omega,ρ2,rfl,q,r2,h2⟩,fun x H2 hy=>?_⟩
  obtain⟨sm,rd⟩:=yld x H2 hy
  refine hg _ σ' ρ' _ x _ _ _ hp' (r'.grow sm) rd h' fun σ3 ρ3 h3 r3 _ _ _=>?_
  exact hb _ σ3 ρ3 _ _ _ hp' r3 h3 ⟨fun σ' ρ' H' h' r'=>⟨ρ',r',h'⟩,ek.nx,fun σ' ρ' H' h' r'=>⟨ρ',r',h'⟩,ek.rt⟩
 ·left
  rw[List.drop_eq_nil_of_le q]at h'
  unfold forA at h'
  obtain⟨hc,h'⟩:=h'
  exact⟨(w hc i).2 q,ek.nx _ _ _ h' r'⟩
end
def blkE (n:Nat)(js:List Nat)(ρ:En):En:=List.replicate n .un++js.map (gt ρ)
def blkR (n:Nat)(js:List Nat):List R:=List.replicate n (R.t "")++js.map R.o
theorem c0k (n:Nat)(js:List Nat)(ρ:En):(blkR n js).map (c0l ρ)=blkE n js ρ:=by
 unfold blkR blkE
 rw[List.map_append,List.map_replicate,List.map_map]
 rfl
theorem m0b (js:List Nat):∀n,dis (blkR n js)=dis (js.map R.o)
 | 0=>rfl
 | n+1=>by
  show dis (R.t "" :: blkR n js)=_
  exact m0b js n
theorem o0a (js:List Nat)(ρ:En)(n:Nat):∀ss:En,ss.length=n+js.length->back ρ (blkR n js) ss=back ρ (js.map R.o) (ss.drop n):=by
 induction n with
 | zero=>intro ss _;rfl
 | succ n ih =>
  intro ss h
  cases ss with
  | nil=>simp at h;omega
  | cons s ss=>exact ih ss (by simp at h;omega)
theorem q0y {n:Nat}{js:List Nat}{ρ:En}{i:Nat}(h:(gt (blkE n js ρ) i).own=true):n<=i:=by
 rcases Nat.lt_or_ge i n with q | q
 ·exfalso
  have:∀(n i:Nat) (x:En),i<n->gt (List.replicate n Sv.un++x) i = .un:=by
   intro n
   induction n with
   | zero=>intro i x h;omega
   | succ n ih =>
    intro i x h
    cases i with
    | zero=>rfl
    | succ i=>exact ih i x (by omega)
  unfold blkE at h
  rw[this n i _ q]at h
  cases h
 ·exact q
section
variable {K:PySem.W.Frag}{F:Fr}{σ σ':St}{ρ ρ':En}{H H':Hp}
theorem q0x (n:Nat)(js:List Nat):Srcs K F σ ρ H (bst n σ js) (blkR n js):=by
 unfold bst blkR
 induction n with
 | zero =>
  induction js with
  | nil=>exact .nil
  | cons j js ih=>exact .cons rfl ih
 | succ n ih=>exact .cons trivial ih
theorem i0u:∀(n i:Nat) (ρ:En),gt (ρ.drop n) i=gt ρ (n+i)
 | 0,i,ρ=>by simp
 | n+1,i,[]=>by simp[gt]
 | n+1,i,s::ρ=>by rw[List.drop_succ_cons,i0u n i ρ,Nat.add_right_comm];rfl
theorem n0k:∀(n i:Nat) (x:En),gt (List.replicate n Sv.un++x) i=if i<n then .un else gt x (i - n)
 | 0,i,x=>by simp
 | n+1,0,x=>by simp[List.replicate_succ,gt]
 | n+1,i+1,x=>by
  show gt (List.replicate n Sv.un++x) i=_
  rw[n0k n i x]
  by_cases h:i<n
  ·rw[if_pos h,if_pos (by omega)]
  ·rw[if_neg h,if_neg (by omega)];congr 1;omega
theorem Rel.forget {n:Nat}(r:Rel K F σ ρ H)(hn:n<=σ.length)(hp:∀i a,F.pin i a->n<=i):Rel K F (List.replicate n none++σ.drop n) (List.replicate n .un++ρ.drop n) H/\Same (hid H (hs F σ ρ)) (hid H (hs F (List.replicate n none++σ.drop n) (List.replicate n .un++ρ.drop n))):=by
 have g:∀i,gt (List.replicate n .un++ρ.drop n) i=if i<n then .un else gt ρ i:=fun i=>by
  rw[n0k]
  split
  ·rfl
  ·rw[i0u];congr 1;omega
 have s:∀i,n<=i->(List.replicate n none++σ.drop n)[i]? = σ[i]?:=fun i h=>by
  rw[List.getElem?_append_right (by simpa using h),List.length_replicate,List.getElem?_drop]
  congr 1;omega
 have own':∀i,(gt (List.replicate n .un++ρ.drop n) i).own=true->n<=i/\(gt ρ i).own=true:=fun i h=>by
  rw[g]at h
  split at h
  ·cases h
  ·exact⟨by omega,h⟩
 have sub:∀a,b0c (List.replicate n none++σ.drop n) (List.replicate n .un++ρ.drop n) a->b0c σ ρ a:=fun a ⟨i,hi,e⟩=>by
  obtain⟨h1,h2⟩:=own' i hi
  rw[s i h1]at e
  exact⟨i,h2,e⟩
 have vis:Same (hid H (hs F σ ρ)) (hid H (hs F (List.replicate n none++σ.drop n) (List.replicate n .un++ρ.drop n))):=a0y fun a o e n=>⟨e,fun z=>n (z.imp id (sub a))⟩
 refine⟨⟨by have:=r.len;simp;omega,r.fr,r.zl,fun a h=>r.zo a (sub a h),fun i a hi e=>?_,fun i a h=>?_,r.ml,r.ma,fun i j a hi hj ei ej=>?_,fun i=>?_⟩,vis⟩
 ·obtain⟨h1,h2⟩:=own' i hi
  rw[s i h1]at e
  exact r.ow i a h2 e
 ·rw[s i (hp i a h)];exact r.mi i a h
 ·obtain⟨h1,h2⟩:=own' i hi
  obtain⟨h3,h4⟩:=own' j hj
  rw[s i h1]at ei
  rw[s j h3]at ej
  exact r.nd i j a h2 h4 ei ej
 ·rw[g]
  split
  ·trivial
  ·rw[s i (by omega)]
   exact(r.sl i).keep vis fun _ _ _ _ e=>e
end
def g0t (n:Nat)(js:List Nat)(c:En->Prop)(g:AG)(tc:AT)(te:AE)(q:List D->En->Prop):List D->List D->En->Prop
 | [],acc,ρ=>c ρ/\q acc ρ
 | d::ds,acc,ρ=>c ρ/\g d (blkE n js ρ) fun ρ1=>tc ρ1 fun b ρ2=>if b=true then te ρ2 fun r ρ3=>sto [r.frz] ρ3 fun es ρ4=>g0t n js c g tc te q ds (acc++es) (back ρ (js.map R.o) (ρ4.drop n))else g0t n js c g tc te q ds acc (back ρ (js.map R.o) (ρ2.drop n))
def e1h (n:Nat)(js:List Nat)(i:AI)(g:AG)(tc:AT)(te:AE):AE:=fun ρ q=>i ρ fun ds c ρ1=>ds.length<=1000000/\g0t n js c g tc te (fun acc ρ2=>q (.f acc) ρ2) ds [] ρ1
def aAll:AT:=fun ρ q=>q true ρ
section
variable {K:PySem.W.Frag}
theorem g0e:TTok K tAll aAll:=fun F σ ρ H q Q r h k=>k _ _ _ h r .refl
theorem s0r {F:Fr}{σ:St}{ρ:En}{H:Hp}{v:V}{r:R}{q:List D->En->Prop}(a:Rel K F σ ρ H)(i:InF K F σ ρ H v r)(h:sto [r] ρ q):∃d ρ',q [d] ρ'/\Rel K F σ ρ' H/\Kp σ ρ ρ' H H/\RepD K (hid H (hs F σ ρ')) v d:=by
 obtain⟨ds,ρ',h1,h2,h3,h4⟩:=h0h a (.cons i .nil) h
 cases ds with
 | nil=>unfold RepDs at h4;exact h4.elim
 | cons d ds =>
  unfold RepDs at h4
  cases ds with
  | nil=>exact⟨d,ρ',h1,h2,h3,h4.1⟩
  | cons _ _=>obtain⟨_,z⟩:=h4;unfold RepDs at z;exact z.elim
theorem b0x {n:Nat}{js:List Nat}{wi:TI}{g:TG}{tc:TT}{te:TE}{ai:AI}{ag:AG}{atc:AT}{ate:AE}(hi:TIok K (fun _=>true) wi ai)(hg:TGok K (fun j=>decide (n<=j)) g ag)(hc:TTok K tc atc)(he:TEok K te ate)
  (hd:dis (js.map R.o)=true:=by rfl):TEok K (r0g n js wi g tc te) (e1h n js ai ag atc ate):=by
 intro F σ ρ H q Q r h k
 refine hi F σ ρ H _ _ r h fun ds c ρ1 J H1 h1 r1 k1 wk=>?_
 obtain⟨hz,h1⟩:=h1
 have hd':dis (blkR n js)=true:=by rw[m0b];exact hd
 refine⟨fun i m ys H'=>∃ ρ' acc,m=ds.length - i/\i<=ds.length/\Rel K F σ ρ' H'/\Kp σ ρ1 ρ' H1 H'/\RepDs K (hid H' (hs F σ ρ')) ys acc/\acc.length<=i/\g0t n js c ag atc ate (fun acc ρ2=>q (.f acc) ρ2) (ds.drop i) acc ρ',⟨ds.length,ρ1,[],rfl,Nat.zero_le _,r1,.refl,.nil,Nat.zero_le _,h1⟩,?_⟩
 rintro i m ys H' ⟨ρ',acc,rfl,hl,r',k',rd,al,h'⟩
 have w:c ρ'->WkAt K (hs F σ ρ') H' J ds:=fun hc=>wk σ ρ' H' k'.vis r'.sl (fun _ _ _ e=>e) (fun a z=>w0k r' z) hc
 have yl:ys.length=acc.length:=rd.length
 rcases Nat.lt_or_ge i ds.length with lt | ge
 ·right
  rw[List.drop_eq_getElem_cons lt]at h'
  unfold g0t at h'
  obtain⟨hcc,h'⟩:=h'
  obtain⟨go,yld⟩:=(w hcc i).1 ds[i] (List.getElem?_eq_getElem lt)
  refine⟨go,s0v (by omega),fun zs H2=>∃ ρ2 acc2,Rel K F σ ρ2 H2/\Kp σ ρ1 ρ2 H1 H2/\RepDs K (hid H2 (hs F σ ρ2)) zs acc2/\acc2.length<=i+1/\g0t n js c ag atc ate (fun acc ρ2=>q (.f acc) ρ2) (ds.drop (i+1)) acc2 ρ2,
   fun zs H2 ⟨ρ2,acc2,a1,a2,a3,a4,a5⟩=>⟨ds.length - (i+1),by omega,ρ2,acc2,rfl,lt,a1,a2,a3,a4,a5⟩,fun x H2 hy=>?_⟩
  obtain⟨sm,rx⟩:=yld x H2 hy
  have r0':=r'
  have k':Kp σ ρ1 ρ' H1 H2:=k'.trans ⟨fun a o e _=>sm a o e,fun _ h=>h⟩
  have rd:RepDs K (hid H2 (hs F σ ρ')) ys acc:=rd.same (a0y fun a o e n=>⟨sm a o e,n⟩)
  have r':=r0'.grow sm
  have src:=q0x (K:=K) (F:=F) (σ:=σ) (ρ:=ρ') (H:=H2) n js
  have rb:=r'.sub src hd'
  have hs2:=s0q r' src
  rw[c0k]at rb hs2
  have pin:∀i a,(f0m F σ ρ' H2 (bst n σ js) (blkE n js ρ')).pin i a->decide (n<=i)=true:=fun i a h=>by
   rcases h with h | h
   ·exact decide_eq_true (q0y h.1)
   ·exact h.elim
  have hlen:(bst n σ js).length=n+js.length:=g0b
  have ret:∀ σ2 ρ2 H3,Rel K (f0m F σ ρ' H2 (bst n σ js) (blkE n js ρ')) σ2 ρ2 H3->σ2.length=(bst n σ js).length->σ2.drop n=capt σ js->(∀i,(gt ρ2 i).own=true->(gt (blkE n js ρ') i).own=true) ->
    Rel K F σ (back ρ' (js.map R.o) (ρ2.drop n)) H3/\Kp σ ρ' (back ρ' (js.map R.o) (ρ2.drop n)) H2 H3/\Same (hid H3 (hs (f0m F σ ρ' H2 (bst n σ js) (blkE n js ρ')) σ2 ρ2)) (hid H3 (hs F σ (back ρ' (js.map R.o) (ρ2.drop n)))):=fun σ2 ρ2 H3 rr hlen2 hdrop hown=>by
   obtain⟨f1,f2⟩:=rr.forget (n:=n) (by omega) fun i a h=>of_decide_eq_true (pin i a h)
   rw[hdrop]at f1 f2
   have f1':Rel K (f0m F σ ρ' H2 (bst n σ js) ((blkR n js).map (c0l ρ'))) (bst n σ js) (List.replicate n .un++ρ2.drop n) H3:=by rw[c0k];exact f1
   have bk:=r'.back src hd' f1' fun i hi=>by
    rw[c0k]
    rw[n0k]at hi
    split at hi
    ·cases hi
    ·rename_i hni
     rw[i0u,show n+(i - n)=i by omega]at hi
     exact hown i hi
   have ln:(List.replicate n Sv.un++ρ2.drop n).length=n+js.length:=by
    have:=rr.len
    simp;omega
   rw[o0a js ρ' n _ ln,List.drop_left' (by simp),c0k]at bk
   exact⟨bk.1,bk.2.1,f2.trans bk.2.2⟩
  refine hg _ (bst n σ js) (blkE n js ρ') H2 x _ _ _ pin rb (by rw[hs2];exact rx) h' fun σ2 ρ2 h2 r2 l2 p2 o2=>?_
  have hdrop:σ2.drop n=capt σ js:=by
   have:σ2.drop n=(bst n σ js).drop n:=by
    apply List.ext_getElem?
    intro i
    rw[List.getElem?_drop,List.getElem?_drop]
    exact p2 (n+i) (decide_eq_true (by omega))
   rw[this]
   unfold bst
   rw[List.drop_left' (by simp)]
  refine⟨hdrop,hc _ σ2 ρ2 H2 _ _ r2 h2 fun b ρ3 H3 h3 r3 k3=>?_⟩
  cases b with
  | false =>
   obtain⟨b1,b2,_⟩:=ret σ2 ρ3 H3 r3 l2 hdrop fun i hi=>(o2 i (k3.sb i hi)).1
   exact⟨_,acc,b1,k'.trans b2,rd.same b2.vis,by omega,h3⟩
  | true =>
   refine he _ σ2 ρ3 H3 _ _ r3 h3 fun r4 ρ4 v H4 h4 o4=>?_
   obtain⟨r4',k4,i4⟩:=o4.inF
   obtain⟨d,ρ5,h5,r5,k5,rv⟩:=s0r r4' i4 h4
   obtain⟨b1,b2,b3⟩:=ret σ2 ρ5 H4 r5 l2 hdrop fun i hi=>(o2 i (k3.sb i (k4.sb i (k5.sb i hi)))).1
   exact⟨_,acc++[d],b1,k'.trans b2,(rd.same b2.vis).append (.one (rv.same b3)),by simp;omega,h5⟩
 ·left
  rw[List.drop_eq_nil_of_le ge]at h'
  unfold g0t at h'
  obtain⟨hcc,h'⟩:=h'
  refine⟨(w hcc i).2 ge,small (by omega),fun l hl'=>?_⟩
  exact((k.after k1).after k').new r' h' rd hl'
end
def outS:En->En->En
 | [],_=>[]
 | s::ss,ρ=>(if s.own=true then gt ρ 0 else s)::outS ss ρ.tail
theorem z0m (ρ:En)(i:Nat):gt ρ.tail i=gt ρ (i+1):=by cases ρ <;> rfl
theorem q0g:∀(ss ρ:En),(outS ss ρ).length=ss.length
 | [],_=>rfl
 | s::ss,ρ=>by simp[outS,q0g ss]
theorem p0d:∀(ss ρ:En) (i:Nat),gt (outS ss ρ) i=if(gt ss i).own=true then gt ρ i else gt ss i
 | [],ρ,i=>by simp[outS,gt,Sv.own]
 | s::ss,ρ,0=>rfl
 | s::ss,ρ,i+1=>by
  show gt (outS ss ρ.tail) i=_
  rw[p0d ss ρ.tail i,z0m]
  rfl
def fin (pr:Nat->Bool):R->En->Ko->Prop
 | .d d,ρ,k=>k (.d d) ρ
 | .n s,ρ,k=>k (.n s) ρ
 | .o i,ρ,k=>(match gt ρ i with
  | .ow ds=>if pr i=true then k (.d (.lst ds)) (pt ρ i (.vl (.lst ds)))else k (.n (.ow ds)) (pt ρ i .un)
  | .vl d=>k (.d d) ρ
  | .dk kvs=>if pr i=true then False else k (.n (.dk kvs)) (pt ρ i .un)
  | .dt kvs=>if pr i=true then False else k (.n (.dt kvs)) (pt ρ i .un)
  | _=>False)
 | .t _,_,_=>False
 | .x s,ρ,k=>k (.x s) ρ
def d1t (pr:Nat->Bool)(ss:En):Prop:=∀i,(gt ss i).own=true->pr i=true
section
variable {K:PySem.W.Frag}{F:Fr}{σ σ':St}{ρ ρ':En}{H H':Hp}
open Classical in
noncomputable def del (H:Hp)(l:Addr):Hp:=fun a=>if a=l then none else H a
open Classical in
theorem l0v {l:Addr}:del H l l=none:=by unfold del;rw[if_pos rfl]
open Classical in
theorem k0j {a l:Addr}(h:a≠l):del H l a=H a:=by unfold del;rw[if_neg h]
theorem h0d {l:Addr}{o:HO}(h:H l=some o):upd (del H l) l o=H:=by
 funext a
 by_cases e:a=l
 ·subst e;rw[b0i,h]
 ·rw[a0o e,k0j e]
theorem Rel.take (r:Rel K F σ ρ H){i:Nat}(hi:(gt ρ i).own=true)(hm:∀a,¬F.pin i a):∃l o,H l=some o/\σ[i]? = some (some (.ref l))/\Rel K F σ (pt ρ i .un) (del H l)/\SvOk K (hid (del H l) (hs F σ (pt ρ i .un))) H (some (some (.ref l))) (gt ρ i):=by
 have s:=r.sl i
 obtain⟨l,o,el,hl⟩:=s.alive hi
 have own':∀j,(gt (pt ρ i .un) j).own=true->i≠j/\(gt ρ j).own=true:=fun j h=>f0w rfl h
 have sub:∀a,b0c σ (pt ρ i .un) a->b0c σ ρ a/\a≠l:=fun a ⟨j,hj,e⟩=>by
  obtain⟨ij,hj⟩:=own' j hj
  exact⟨⟨j,hj,e⟩,fun z=>ij (r.nd i j l hi hj el (z▸e))⟩
 have ol:b0c σ ρ l:=⟨i,hi,el⟩
 have vis:Same (hid H (hs F σ ρ)) (hid (del H l) (hs F σ (pt ρ i .un))):=a0y fun a u e n=>by
  have al:a≠l:=fun z=>n (.inr (z▸ol))
  exact⟨by rw[k0j al];exact e,fun z=>n (z.imp id fun z=>(sub a z).1)⟩
 have h0:F.H0 l=none:=by
  rcases r.ow i l hi el with h | h
  ·exact absurd (Or.inl h.1) (hm l)
  ·exact h
 refine⟨l,o,hl,el,⟨by rw[d0s,r.len],fun a u e n=>?_,fun a z=>?_,fun a h=>r.zo a (sub a h).1,fun j a hj e=>r.ow j a (own' j hj).2 e,r.mi,r.ml,fun a z=>?_,fun j k a hj hk ej ek=>r.nd j k a (own' j hj).2 (own' k hk).2 ej ek,fun j=>?_⟩,?_⟩
 ·have al:a≠l:=fun z=>by rw[z,h0]at e;cases e
  rw[k0j al];exact r.fr a u e n
 ·have al:a≠l:=fun q=>r.zo l ol (q▸z)
  unfold Nt;rw[k0j al];exact r.zl a z
 ·have al:a≠l:=fun q=>r.ml a z (q▸h0)
  rw[k0j al];exact r.ma a z
 ·by_cases ij:i=j
  ·subst ij
   rw[h0r ρ i _ (k0b hi)];trivial
  ·rw[b0g ρ i j _ ij]
   refine(r.sl j).keep vis fun a u ho e h=>?_
   have al:a≠l:=fun z=>ij (r.nd i j l hi ho el (z▸e))
   rw[k0j al];exact h
 ·rw[el]at s
  exact s.keep vis fun _ _ _ _ e=>e
theorem Rel.out {vs:List V}{ss:En}{Z:Addr->Prop}(r0:Rel K (F0 vs ss H Z) (vs.map some) ss H)(r:Rel K (F0 vs ss H Z) σ' ρ' H') :
  Rel K (F0 vs ss H Z) (vs.map some) (outS ss ρ') H'/\Same (hid H' (hs (F0 vs ss H Z) σ' ρ')) (hid H' (hs (F0 vs ss H Z) (vs.map some) (outS ss ρ')))/\∀i,(gt (outS ss ρ') i).own=true->(gt ss i).own=true:=by
 have own':∀i,(gt (outS ss ρ') i).own=true->(gt ss i).own=true/\(gt ρ' i).own=true:=fun i h=>by
  rw[p0d]at h
  split at h
  ·rename_i q;exact⟨q,h⟩
  ·rename_i q;exact absurd h q
 have same:∀i a,(gt ss i).own=true->(vs.map some)[i]? = some (some (.ref a))->σ'[i]? = some (some (.ref a)):=fun i a h e=>r.mi i a (.inl ⟨h,e⟩)
 have sub:∀a,b0c (vs.map some) (outS ss ρ') a->b0c σ' ρ' a/\b0c (vs.map some) ss a:=fun a ⟨i,hi,e⟩=>by
  obtain⟨h1,h2⟩:=own' i hi
  exact⟨⟨i,h2,same i a h1 e⟩,⟨i,h1,e⟩⟩
 have v1:Same (hid H' (hs (F0 vs ss H Z) σ' ρ')) (hid H' (hs (F0 vs ss H Z) (vs.map some) (outS ss ρ'))):=a0y fun a o e n=>⟨e,fun z=>n (z.imp id fun z=>(sub a z).1)⟩
 have v2:Same (hid H (hs (F0 vs ss H Z) (vs.map some) ss)) (hid H' (hs (F0 vs ss H Z) (vs.map some) (outS ss ρ'))):=a0y fun a o e n=>⟨r.fr a o e fun z=>n (.inr z),fun z=>n (z.imp id fun z=>(sub a z).2)⟩
 refine⟨⟨by rw[q0g,r0.len],r.fr,r.zl,fun a h=>r.zo a (sub a h).1,fun i a hi e=>.inl ⟨⟨(own' i hi).1,e⟩,i,(own' i hi).1,e⟩,r0.mi,r.ml,r.ma,fun i j a hi hj ei ej=>r0.nd i j a (own' i hi).1 (own' j hj).1 ei ej,fun i=>?_⟩,v1,fun i h=>(own' i h).1⟩
 rw[p0d]
 split
 ·rename_i q
  obtain⟨l,o,e1,e2⟩:=(r0.sl i).alive q
  have:=same i l q e1
  rw[e1,<- this]
  exact(r.sl i).keep v1 fun _ _ _ _ e=>e
 ·rename_i q
  exact(r0.sl i).keep v2 fun l o ho=>absurd ho q
theorem n0m:∀(ρ:En) (n i:Nat),gt (ρ++List.replicate n .un) i=gt ρ i
 | [],n,i=>by
  show gt (List.replicate n .un) i = .un
  induction n generalizing i with
  | zero=>rfl
  | succ n ih=>cases i with
   | zero=>rfl
   | succ i=>exact ih i
 | s::ρ,n,0=>rfl
 | s::ρ,n,i+1=>n0m ρ n i
theorem Rel.ext (r:Rel K F σ ρ H)(n:Nat):Rel K F (σ++List.replicate n none) (ρ++List.replicate n .un) H:=by
 have s:∀ {i a},(gt ρ i).own=true->(σ++List.replicate n none)[i]? = some (some (V.ref a))->σ[i]? = some (some (.ref a)):=fun{i a} h e=>by
  rwa [List.getElem?_append_left (by rw[r.len];exact k0b h)]at e
 have sub:∀a,b0c (σ++List.replicate n none) (ρ++List.replicate n .un) a->b0c σ ρ a:=fun a ⟨i,hi,e⟩=>by
  rw[n0m]at hi
  exact⟨i,hi,s hi e⟩
 have vis:Same (hid H (hs F σ ρ)) (hid H (hs F (σ++List.replicate n none) (ρ++List.replicate n .un))):=a0y fun a o e n=>⟨e,fun z=>n (z.imp id (sub a))⟩
 refine⟨by simp[r.len],r.fr,r.zl,fun a h=>r.zo a (sub a h),fun i a hi e=>?_,fun i a h=>?_,r.ml,r.ma,fun i j a hi hj ei ej=>?_,fun i=>?_⟩
 ·rw[n0m]at hi
  exact r.ow i a hi (s hi e)
 ·have:=r.mi i a h
  rw[List.getElem?_append_left (List.getElem?_eq_some_iff.mp this).1];exact this
 ·rw[n0m]at hi hj
  exact r.nd i j a hi hj (s hi ei) (s hj ej)
 ·rw[n0m]
  have q:=r.sl i
  rcases Nat.lt_or_ge i σ.length with lt | ge
  ·rw[List.getElem?_append_left lt]
   exact q.keep vis fun _ _ _ _ e=>e
  ·rw[g0o ρ i (by rw[<- r.len];exact ge)];trivial
end
theorem DefN.aok {P:Program}{w:World}{K:PySem.W.Frag}{mg:Str->Option Value}{base:Heap}{x:Str}{st:Stmt}{N ps:List Str}{k:Nat}{a:AS}(D:DefN K mg x st ps)(Sc:b0f N ps (a0i st))(pr:Nat->Bool)(S:ASp)
  (hbody:∀(f:Addr) (cdv:Value) (A:Around) (outer:List Env) (s:Shared) (H:Hp) (E:XK),Room k (A.deeper (envOfC x (a0i st) s.heap.objs.size f cdv)) ->
   ∃t,PSs (cxOf CX0 P w K mg base N x (a0i st) f cdv A outer s H E).nox (e0m st) t/\TSok K pr t a)
  (hS:∀ss q,S ss q->ss.length=ps.length/\d1t pr ss/\a ⟨fun ρ=>q (.d .non) (outS ss ρ),fun r ρ=>fin pr r ρ fun r' ρ'=>q r' (outS ss ρ'),fun _=>False,fun _=>False⟩ (ss++List.replicate (N.length - ps.length) .un)):OkN P w K mg base (k+1) x ps (spA K S):=by
 have lenOk:∀vs H Q E,spA K S vs H Q E->vs.length=ps.length:=fun vs H Q E h=>by
  obtain⟨ss,Z,q,r,hs',_⟩:=h
  have:=r.len
  rw[List.length_map]at this
  rw[this];exact(hS ss q hs').1
 refine D.ok Sc lenOk (fun f cdv A outer s H vs Q E hr h=>?_)
 have hl:=lenOk _ _ _ _ h
 obtain⟨ss,Z,q,r0,hs',post⟩:=h
 obtain⟨h1,h2,h3⟩:=hS ss q hs'
 obtain⟨t,ht,tok⟩:=hbody f cdv A outer s H E hr
 refine⟨t,ht,?_⟩
 have hp:∀i a,(F0 vs ss H Z).pin i a->pr i=true:=fun i a h=>by
  rcases h with h | h
  ·exact h2 i h.1
  ·exact h.elim
 unfold start
 rw[hl]
 have fin_d:∀ σ' ρ' v H' d,q (.d d) (outS ss ρ')->Rel K (F0 vs ss H Z) σ' ρ' H'->RepD K (hid H' (hs (F0 vs ss H Z) σ' ρ')) v d->Q v H':=fun σ' ρ' v H' d hq r rd=>by
  obtain⟨o1,o2,o3⟩:=r0.out r
  exact post (.d d) _ v H' hq o3 (fun i z=>nomatch z) ⟨o1,rd.same o2⟩
 refine tok (F0 vs ss H Z) _ _ H _ _ hp (r0.ext _) h3 ⟨fun σ' ρ' H' hq r=>?_,fun _ _ _ z=>z.elim,fun _ _ _ z=>z.elim,fun σ' ρ' rr v H' hq r=>?_⟩
 ·exact fin_d σ' ρ' _ H' .non hq r (by unfold RepD;rfl)
 ·cases rr with
  | d d=>exact fin_d σ' ρ' v H' d hq r.1 r.2
  | t n=>exact hq.elim
  | x s =>
   obtain⟨ra,rb,rc⟩:=r
   obtain⟨o1,o2,o3⟩:=r0.out ra
   exact post (.x s) _ v H' hq o3 (fun i z=>nomatch z) ⟨o1,rb,rc.keep o2 fun l o ho=>by rw[rb]at ho;cases ho⟩
  | n sv =>
   obtain⟨Hb,l,o,a1,a2,a3,a4,a5,a6⟩:=r
   obtain⟨o1,o2,o3⟩:=r0.out a1
   exact post (.n sv) _ v H' hq o3 (fun i z=>nomatch z) ⟨Hb,l,o,o1,a2,a3.keep o2 fun _ _ _ _ e=>e,a4,a5,a6⟩
  | o i =>
   obtain⟨r,ei⟩:=r
   have hq':(match gt ρ' i with
    | .ow ds=>if pr i=true then q (.d (.lst ds)) (outS ss (pt ρ' i (.vl (.lst ds))))else q (.n (.ow ds)) (outS ss (pt ρ' i .un))
    | .vl d=>q (.d d) (outS ss ρ')
    | .dk kvs=>if pr i=true then False else q (.n (.dk kvs)) (outS ss (pt ρ' i .un))
    | .dt kvs=>if pr i=true then False else q (.n (.dt kvs)) (outS ss (pt ρ' i .un))
    | _=>False):=hq
   clear hq
   split at hq'
   ·rename_i ds hg
    split at hq'
    ·obtain⟨l,el,r2,k2,rd⟩:=r.frz hg
     rw[ei]at el
     injection el with el;injection el with el;subst el
     exact fin_d σ' _ _ H' _ hq' r2 rd
    ·rename_i hpr
     have ho:(gt ρ' i).own=true:=by rw[hg];rfl
     obtain⟨l,o,hl',el,r2,sv⟩:=r.take ho fun a z=>hpr (hp i a z)
     rw[ei]at el
     injection el with el;injection el with el;subst el
     obtain⟨o1,o2,o3⟩:=r0.out r2
     rw[hg]at sv
     refine post (.n (.ow ds)) _ _ H' hq' o3 (fun i z=>nomatch z) ⟨del H' l,l,o,o1,rfl,?_,l0v,(h0d hl').symm,rfl⟩
     rw[h0d hl']
     exact sv.keep o2 fun _ _ _ _ e=>e
   ·rename_i d hg
    have s:=r.sl i
    rw[hg,ei]at s
    obtain⟨x,e1,rd⟩:=s
    injection e1 with e1;injection e1 with e1;subst e1
    exact fin_d σ' ρ' _ H' d hq' r rd
   ·rename_i kvs hg
    split at hq'
    ·exact hq'.elim
    ·rename_i hpr
     have ho:(gt ρ' i).own=true:=by rw[hg];rfl
     obtain⟨l,o,hl',el,r2,sv⟩:=r.take ho fun a z=>hpr (hp i a z)
     rw[ei]at el
     injection el with el;injection el with el;subst el
     obtain⟨o1,o2,o3⟩:=r0.out r2
     rw[hg]at sv
     refine post (.n (.dk kvs)) _ _ H' hq' o3 (fun i z=>nomatch z) ⟨del H' l,l,o,o1,rfl,?_,l0v,(h0d hl').symm,rfl⟩
     rw[h0d hl']
     exact sv.keep o2 fun _ _ _ _ e=>e
   ·rename_i kvs hg
    split at hq'
    ·exact hq'.elim
    ·rename_i hpr
     have ho:(gt ρ' i).own=true:=by rw[hg];rfl
     obtain⟨l,o,hl',el,r2,sv⟩:=r.take ho fun a z=>hpr (hp i a z)
     rw[ei]at el
     injection el with el;injection el with el;subst el
     obtain⟨o1,o2,o3⟩:=r0.out r2
     rw[hg]at sv
     refine post (.n (.dt kvs)) _ _ H' hq' o3 (fun i z=>nomatch z) ⟨del H' l,l,o,o1,rfl,?_,l0v,(h0d hl').symm,rfl⟩
     rw[h0d hl']
     exact sv.keep o2 fun _ _ _ _ e=>e
   ·exact hq'.elim
def SLaw:ASp:=fun ss q=>∃ns:List Int,ns.length<=63/\ss=[.sc ns]/\∀ss',q (.d (.bl true)) ss'
theorem c1m {P:Program}{w:World}{K:PySem.W.Frag}{mg:Str->Option Value}{base:Heap}{k:Nat}{x:Str}{ps:List Str}(h:OkN P w K mg base k x ps (spA K SLaw)):OkN P w K mg base k x ps (y0m K):=by
 obtain⟨f,fd,a1,a2,a3,a4,g⟩:=h.ex
 refine⟨f,fd,a1,a2,a3,a4,g.imp fun vs H Q E hq=>?_⟩
 obtain⟨a,ns,rfl,sq,hl,k⟩:=hq
 refine⟨[.sc ns],fun _=>False,fun r _=>r = .d (.bl true),⟨rfl,fun a o e _=>e,fun a z=>z.elim,fun a _ z=>z,fun i a hi _=>?_,fun i a h=>?_,fun a h=>?_,fun a h=>?_,fun i j a hi=>?_,fun i=>?_⟩,⟨ns,hl,rfl,fun _=>rfl⟩,fun r ss' v H' e1 _ _ rr=>?_⟩
 ·exfalso;cases i with
  | zero=>cases hi
  | succ i=>cases hi
 ·rcases h with h | h
  ·cases i with
   | zero=>cases h.1
   | succ i=>cases h.1
  ·exact h.elim
 ·obtain⟨i,hi,_⟩:=h
  cases i with
  | zero=>cases hi
  | succ i=>cases hi
 ·obtain⟨i,hi,_⟩:=h
  cases i with
  | zero=>cases hi
  | succ i=>cases hi
 ·exfalso;cases i with
  | zero=>cases hi
  | succ i=>cases hi
 ·cases i with
  | succ i=>trivial
  | zero =>
   refine⟨a,rfl,?_⟩
   refine(show Same H (hid H _)from fun b o e=>f0r (fun z=>?_) e).seq sq
   rcases z with z | ⟨i,hi,_⟩
   ·exact z
   ·cases i with
    | zero=>cases hi
    | succ i=>cases hi
 ·subst e1
  obtain⟨_,rd⟩:=rr
  unfold RepD at rd
  subst rd
  exact k H'
def s0t (K:PySem.W.Frag):Sp:=fun vs H Q _=>∃(t c:Addr) (m sp lf:Int) (ns:List Int) (n:Nat),vs=[.ref t,.int m]/\H t=some (.dK (c0b c sp lf))/\SqL K H c (ns.map V.int)/\0<=sp/\sp<=n/\0<=lf/\n<1000000000000/\Dv m /\
 ∀(r:Nat) (sp' lf':Int),(r:Int)<m->0<=sp'->sp'<=(n+1:Nat)->0<=lf'->Q (.int (r:Nat)) (upd H t (.dK (c0b c sp' lf')))
def s0s (K:PySem.W.Frag):Sp:=fun vs H Q _=>∃(a:Addr) (ns:List Int),vs=[.ref a]/\SqL K H a (ns.map V.int) /\
 ∀t c,H t=none->H c=none->t≠c->Q (.ref t) (upd (upd H c (.lst ((ns.take 63).map V.int))) t (.dK (c0b c 0 0)))
def a1d:ASp:=fun ss q=>∃ns:List Int,ss=[.sc ns]/\q (.n (.tp 0)) [.sc ns]
def a1g:ASp:=fun ss q=>∃(n:Nat) (m:Int),ss=[.tp n,.vl (.int m)]/\n<1000000000000/\Dv m/\∀r:Nat,(r:Int)<m->q (.d (.int r)) [.tp (n+1),.vl (.int m)]
theorem OkN.imp {P:Program}{w:World}{K:PySem.W.Frag}{mg:Str->Option Value}{base:Heap}{k:Nat}{x:Str}{ps:List Str}{sp sp':Sp}(h:OkN P w K mg base k x ps sp)(i:∀vs H Q E,sp' vs H Q E->sp vs H Q E):OkN P w K mg base k x ps sp':=by
 obtain⟨f,fd,a1,a2,a3,a4,g⟩:=h.ex
 exact⟨f,fd,a1,a2,a3,a4,g.imp i⟩
theorem d1i {vs:List V}{s:Sv}{F:Fr}{K:PySem.W.Frag}{H:Hp}(r:Rel K F (vs.map some) [s] H):∃x,vs=[x]:=by
 have:=r.len
 match vs,this with
 | [x],_=>exact⟨x,rfl⟩
theorem d1h {vs:List V}{s s':Sv}{F:Fr}{K:PySem.W.Frag}{H:Hp}(r:Rel K F (vs.map some) [s,s'] H):∃x y,vs=[x,y]:=by
 have:=r.len
 match vs,this with
 | [x,y],_=>exact⟨x,y,rfl⟩
theorem z0s {K:PySem.W.Frag}(vs:List V)(H:Hp)(Q:VK)(E:XK)(h:spA K a1g vs H Q E):s0t K vs H Q E:=by
 obtain⟨ss,Z,q,r,⟨n,m,rfl,hn,hm,hq⟩,post⟩:=h
 obtain⟨x,y,rfl⟩:=d1h r
 obtain⟨t,c,ns,sp,lf,e0,ht,hc,h1,h2,h3⟩:=r.sl 0
 obtain⟨y',e1,ry⟩:=r.sl 1
 unfold RepD at ry
 injection e0 with e0;injection e0 with e0;subst e0
 injection e1 with e1;injection e1 with e1
 subst e1 ry
 refine⟨t,c,m,sp,lf,ns,n,rfl,ht,b0m.seq hc,h1,h2,h3,hn,hm,fun rr sp' lf' hr a1 a2 a3=>?_⟩
 have hw:=r.write (i:=0) (l:=t) (o:=.dK (c0b c sp' lf')) (s:=.tp (n+1)) rfl rfl rfl ⟨t,c,ns,sp',lf',rfl,b0i,hc,a1,a2,a3⟩
 refine post (.d (.int rr)) [.tp (n+1),.vl (.int m)] _ _ (hq rr hr) (fun i h=>?_) (fun i z=>nomatch z) ⟨hw.1,by unfold RepD;rfl⟩
 match i,h with
 | 0,_=>rfl
 | 1,h=>cases h
 | i+2,h=>cases h
theorem y0k {K:PySem.W.Frag}(vs:List V)(H:Hp)(Q:VK)(E:XK)(h:spA K a1d vs H Q E):s0s K vs H Q E:=by
 obtain⟨ss,Z,q,r,⟨ns,rfl,hq⟩,post⟩:=h
 obtain⟨x,rfl⟩:=d1i r
 obtain⟨a,e0,sq⟩:=r.sl 0
 injection e0 with e0;injection e0 with e0;subst e0
 refine⟨a,ns,rfl,b0m.seq sq,fun t c ht hc htc=>?_⟩
 have rc:=r.fresh (o:=.lst ((ns.take 63).map V.int)) hc
 have kc:Kp ([V.ref a].map some) [.sc ns] [.sc ns] H (upd H c (.lst ((ns.take 63).map V.int))):=Kp.fresh hc
 have ht':(upd H c (.lst ((ns.take 63).map V.int))) t=none:=by rw[a0o htc];exact ht
 refine post (.n (.tp 0)) _ _ _ hq (fun i h=>h) (fun i z=>nomatch z) ⟨_,t,_,rc,rfl,⟨t,c,ns.take 63,0,0,rfl,b0i,SqL.of (f0r (i0v r hc) b0i),by decide,by decide,by decide⟩,ht',rfl,rfl⟩
section
variable {K:PySem.W.Frag}{F:Fr}{σ:St}{ρ ρ':En}{H H':Hp}{ta tb tc:TE}{a b c:AE}{rr rr':R2}{g g':R->R->AE}
def gNeg:R->AE:=fun r ρ q=>match r with
 | .d (.int i)=>q (.d (.int (-i))) ρ
 | _=>False
theorem y0j (ha:TEok K ta a):TEok K (tUn (rU fun i=>.int (-i)) ta) (aUn gNeg a):=by
 intro F σ ρ H q Q r h k
 refine ha F σ ρ H _ _ r h fun r1 ρ1 x H1 h1 o1=>?_
 obtain⟨r1',k1,i1⟩:=o1.inF
 unfold gNeg at h1
 split at h1
 ·rename_i i e
  rw[e]at i1
  exact⟨i,i1.int,(k.after k1).int r1' h1⟩
 ·exact h1.elim
def l0t:D->Bool
 | .tup _=>false
 | .lst _=>false
 | _=>true
def inD (d:D)(ds:List D):Bool:=ds.any fun e=>eqD e d
@[irreducible] def gIn (neg:Bool):R->R->AE:=fun r1 r2 ρ q=>match view ρ r1,view ρ r2 with
 | some d,some (.lst ds)=>(l0t d=true/\ds.all l0t=true)/\q (.d (.bl (if neg then !inD d ds else inD d ds))) ρ
 | some d,some (.tup ds)=>(l0t d=true/\ds.all l0t=true)/\q (.d (.bl (if neg then !inD d ds else inD d ds))) ρ
 | _,_=>False
theorem l0s {x:V}{d:D}(h:RepD K H x d)(f:l0t d=true):j0r x=true:=by
 cases d with
 | tup ds=>cases f
 | lst ds=>cases f
 | non=>unfold RepD at h;subst h;rfl
 | bl b=>unfold RepD at h;subst h;rfl
 | int b=>unfold RepD at h;subst h;rfl
 | str b=>unfold RepD at h;subst h;rfl
theorem z0q {x y:V}{d e:D}(h:RepD K H x d)(h':RepD K H y e)(f:l0t d=true)(f':l0t e=true):eqV x y=eqD d e:=by
 cases d with
 | tup ds=>cases f
 | lst ds=>cases f
 | non=>unfold RepD at h;subst h;cases e with
  | tup ds=>cases f'
  | lst ds=>cases f'
  | non=>unfold RepD at h';subst h';simp[eqV,eqD]
  | bl b=>unfold RepD at h';subst h';simp[eqV,eqD]
  | int b=>unfold RepD at h';subst h';simp[eqV,eqD]
  | str b=>unfold RepD at h';subst h';simp[eqV,eqD]
 | bl b=>unfold RepD at h;subst h;cases e with
  | tup ds=>cases f'
  | lst ds=>cases f'
  | non=>unfold RepD at h';subst h';simp[eqV,eqD]
  | bl b=>unfold RepD at h';subst h';simp[eqV,eqD]
  | int b=>unfold RepD at h';subst h';simp[eqV,eqD]
  | str b=>unfold RepD at h';subst h';simp[eqV,eqD]
 | int b=>unfold RepD at h;subst h;cases e with
  | tup ds=>cases f'
  | lst ds=>cases f'
  | non=>unfold RepD at h';subst h';simp[eqV,eqD]
  | bl b=>unfold RepD at h';subst h';simp[eqV,eqD]
  | int b=>unfold RepD at h';subst h';simp[eqV,eqD]
  | str b=>unfold RepD at h';subst h';simp[eqV,eqD]
 | str b=>unfold RepD at h;subst h;cases e with
  | tup ds=>cases f'
  | lst ds=>cases f'
  | non=>unfold RepD at h';subst h';simp[eqV,eqD]
  | bl b=>unfold RepD at h';subst h';simp[eqV,eqD]
  | int b=>unfold RepD at h';subst h';simp[eqV,eqD]
  | str b=>unfold RepD at h';subst h';simp[eqV,eqD]
theorem u0d {x:V}{d:D}(h:RepD K H x d)(f:l0t d=true):∀ {vs:List V} {ds:List D},RepDs K H vs ds->ds.all l0t=true->vs.all j0r=true/\inV x vs=inD d ds
 | [],[],_,_=>⟨rfl,rfl⟩
 | v::vs,e::ds,hr,fa=>by
  unfold RepDs at hr
  rw[List.all_cons,Bool.and_eq_true]at fa
  obtain⟨q1,q2⟩:=u0d h f hr.2 fa.2
  refine⟨by rw[List.all_cons,l0s hr.1 fa.1,q1];rfl,?_⟩
  unfold inV inD at *
  rw[List.any_cons,List.any_cons,q2,z0q hr.1 h fa.1 f]
 | [],d::ds,h,_=>by unfold RepDs at h;exact h.elim
 | v::vs,[],h,_=>by unfold RepDs at h;exact h.elim
theorem t0q (neg:Bool):OpOk K (rIn K neg) (gIn neg):=by
 intro F σ ρ H x y r1 r2 q Q a h1 h2 h b
 unfold gIn at h
 split at h
 ·rename_i d ds e1 e2
  obtain⟨⟨f1,f2⟩,h⟩:=h
  have rx:=d0f a h1 e1
  obtain⟨l,vs,rfl,sq,rd⟩:=c0d a h2 e2
  obtain⟨q1,q2⟩:=u0d rx f1 (rd.same b0m) f2
  refine⟨l,vs,rfl,.inl sq,l0s rx f1,q1,?_⟩
  rw[q2]
  exact b.bl a h
 ·rename_i d ds e1 e2
  obtain⟨⟨f1,f2⟩,h⟩:=h
  have rx:=d0f a h1 e1
  obtain⟨l,vs,rfl,sq,rd,_⟩:=f0f a h2 e2
  obtain⟨q1,q2⟩:=u0d rx f1 (rd.same b0m) f2
  refine⟨l,vs,rfl,.inr sq,l0s rx f1,q1,?_⟩
  rw[q2]
  exact b.bl a h
 ·exact h.elim
end
theorem l0r {c:En->Prop}{g:AG}{b:AS}{e:o0f}(I:Nat->En->Prop){ds:List D}(hc:∀k ρ,k<=ds.length->I k ρ->c ρ)
  (hs:∀(k:Nat) d ρ (N:En->Prop),ds[k]? = some d->I k ρ->(∀ ρ',I (k+1) ρ'->N ρ')->g d ρ fun ρ1=>b {nx:=N,ct:=N,bk:=e.nx,rt:=e.rt} ρ1) (hd:∀ ρ,I ds.length ρ->e.nx ρ):∀ ρ,I 0 ρ->forA c g b e ds ρ:=by
 have go:∀(es:List D) (k:Nat),ds.drop k=es->k<=ds.length->∀ ρ,I k ρ->forA c g b e es ρ:=by
  intro es
  induction es with
  | nil =>
   intro k h hk ρ i
   have:ds.length<=k:=List.drop_eq_nil_iff.mp h
   have:k=ds.length:=by omega
   subst this
   unfold forA
   exact⟨hc _ ρ (Nat.le_refl _) i,hd ρ i⟩
  | cons d es ih =>
   intro k h hk ρ i
   have lt:k<ds.length:=by
    rcases Nat.lt_or_ge k ds.length with q | q
    ·exact q
    ·rw[List.drop_eq_nil_of_le q]at h;cases h
   rw[List.drop_eq_getElem_cons lt]at h
   injection h with h1 h2
   unfold forA
   exact⟨hc k ρ hk i,hs k d ρ _ (by rw[<- h1];exact List.getElem?_eq_getElem lt) i (fun ρ' i'=>ih (k+1) h2 lt ρ' i')⟩
 exact go ds 0 rfl (Nat.zero_le _)
theorem d0b {n:Nat}{js:List Nat}{c:En->Prop}{g:AG}{tc:AT}{te:AE}{q:List D->En->Prop}(I:Nat->List D->En->Prop){ds:List D}(hc:∀k acc ρ,k<=ds.length->I k acc ρ->c ρ)
  (hs:∀(k:Nat) d acc ρ (N:List D->En->Prop),ds[k]? = some d->I k acc ρ->(∀acc' ρ',I (k+1) acc' ρ'->N acc' ρ') ->
   g d (blkE n js ρ) fun ρ1=>tc ρ1 fun b ρ2=>if b=true then te ρ2 fun r ρ3=>sto [r.frz] ρ3 fun es ρ4=>N (acc++es) (back ρ (js.map R.o) (ρ4.drop n))else N acc (back ρ (js.map R.o) (ρ2.drop n)))
  (hd:∀acc ρ,I ds.length acc ρ->q acc ρ):∀ ρ,I 0 [] ρ->g0t n js c g tc te q ds [] ρ:=by
 have go:∀(es:List D) (k:Nat),ds.drop k=es->k<=ds.length->∀acc ρ,I k acc ρ->g0t n js c g tc te q es acc ρ:=by
  intro es
  induction es with
  | nil =>
   intro k h hk acc ρ i
   have:ds.length<=k:=List.drop_eq_nil_iff.mp h
   have:k=ds.length:=by omega
   subst this
   unfold g0t
   exact⟨hc _ acc ρ (Nat.le_refl _) i,hd acc ρ i⟩
  | cons d es ih =>
   intro k h hk acc ρ i
   have lt:k<ds.length:=by
    rcases Nat.lt_or_ge k ds.length with q | q
    ·exact q
    ·rw[List.drop_eq_nil_of_le q]at h;cases h
   rw[List.drop_eq_getElem_cons lt]at h
   injection h with h1 h2
   unfold g0t
   exact⟨hc k acc ρ hk i,hs k d acc ρ (fun acc' ρ'=>g0t n js c g tc te q es acc' ρ') (by rw[<- h1];exact List.getElem?_eq_getElem lt) i (fun acc' ρ' i'=>ih (k+1) h2 lt acc' ρ' i')⟩
 exact go ds 0 rfl (Nat.zero_le _) []
theorem y0g {c:AT}{b:AS}{e:o0f}(I:En->Prop)(μ:En->Nat)
  (hs:∀ ρ (N:En->Prop),I ρ->(∀ ρ',I ρ'->μ ρ'<μ ρ->N ρ')->c ρ fun k ρ1=>if k=true then b {nx:=N,ct:=N,bk:=e.nx,rt:=e.rt} ρ1 else e.nx ρ1):∀ ρ,I ρ->y0a c b e ρ:=by
 have go:∀(n:Nat) ρ,I ρ->μ ρ<n->whA c b e n ρ:=by
  intro n
  induction n with
  | zero=>intro ρ _ h;omega
  | succ n ih=>intro ρ i h;exact hs ρ _ i fun ρ' i' lt=>ih ρ' i' (by omega)
 exact fun ρ i=>⟨μ ρ+1,go _ ρ i (by omega)⟩
section
variable {X:Cx}(K:PySem.W.Frag)
def b1t (K:PySem.W.Frag):R2:=fun x y H Q=>∃a b xs ys,x = .ref a/\y = .ref b/\SqL K H a xs/\SqL K H b ys/\xs.length+ys.length<=1000000/\∀p,H p=none->Q (.ref p) (upd H p (.lst (xs++ys)))
theorem t0o (hK:X.K=K:=by rfl):OpR X (binaryOp .Add) (b1t K):=by
 subst hK
 intro pins s σ H x y v u Q I rx ry h
 obtain⟨a,b,xs,ys,rfl,rfl,ha,hb,hz,q⟩:=h
 cases rx
 cases ry
 obtain⟨its,r1,p1,_⟩:=I.list ha
 obtain⟨its2,r2,p2,_⟩:=I.list hb
 have hz':its.length+its2.length<=sizeLine:=small (by rw[<- r1.length,<- r2.length];exact hz)
 obtain⟨⟨cls,dd,data,sl⟩,ho,hc,n,hd⟩:=p1.isList
 obtain⟨⟨cls2,dd2,data2,sl2⟩,ho2,hc2,n2,hd2⟩:=p2.isList
 simp only at hc hd hc2 hd2
 subst hc hd hc2 hd2
 refine concat_meets ⟨_,ho,rfl⟩ ⟨_,ho2,rfl⟩ noFill_list_add seq_list_add PySem.F.slot_list_add PySem.F.entry_list_add (PySem.F.args_list_add_2 _ _) (list_addW a b its.toArray its2.toArray n n2 dd dd2 sl sl2 (by rw[List.size_toArray,List.size_toArray];exact hz')) ⟨ho,ho2,?_⟩
 refine⟨.ref s.heap.objs.size,_,I.laid (t':=s.toks) (o:=.lst (xs++ys)) (fun b ob q=>Heap.get?_push_of_some _ q) (Nat.le_refl _) ?_,rfl,q _ (I.hok.fresh (Nat.le_refl _))⟩
 refine⟨by rw[List.length_append];exact small hz,_,0,r1.append r2,?_⟩
 rw[show(its++its2).toArray=its.toArray++its2.toArray by simp]
 exact Heap.get?_push_size _ rfl
variable {e st:Expr}{te:TE}{ts:TO}{pos p2:Pos}
end
section
variable {K:PySem.W.Frag}{ta te:TE}{a ae:AE}{ts:TA}{as:AA}
def gCat:R->R->AE:=fun r1 r2 ρ q=>match view ρ r1,view ρ r2 with
 | some (.lst ds),some (.lst es)=>ds.length+es.length<=1000000/\q (.f (ds++es)) ρ
 | _,_=>False
theorem t0r:OpOk K (b1t K) gCat:=by
 intro F σ ρ H x y r1 r2 q Q a h1 h2 h b
 unfold gCat at h
 split at h
 ·rename_i ds es e1 e2
  obtain⟨l,vs,rfl,sq,rd⟩:=c0d a h1 e1
  obtain⟨l2,vs2,rfl,sq2,rd2⟩:=c0d a h2 e2
  exact⟨l,l2,vs,vs2,rfl,rfl,sq,sq2,by rw[rd.length,rd2.length];exact h.1,fun p hp=>b.new a h.2 (rd.append rd2) hp⟩
 ·exact h.elim
end
abbrev nD (n:Nat):D:=.int (n:Nat)
abbrev nv (n:Nat):Sv:=.vl (.int (n:Nat))
def ownB (pr:Nat->Bool):En->Nat->Bool
 | [],_=>true
 | s::ss,i=>(!s.own||pr i)&&ownB pr ss (i+1)
theorem t0h {pr:Nat->Bool}:∀ {ss:En} {j:Nat},ownB pr ss j=true->∀i,(gt ss i).own=true->pr (j+i)=true
 | [],_,_,i,h=>by cases h
 | s::ss,j,hb,0,h=>by
  simp only[ownB,Bool.and_eq_true,Bool.or_eq_true,Bool.not_eq_true']at hb
  rcases hb.1 with q | q
  ·rw[show(gt (s::ss) 0)=s from rfl,q]at h;cases h
  ·exact q
 | s::ss,j,hb,i+1,h=>by
  simp only[ownB,Bool.and_eq_true]at hb
  have:=t0h hb.2 i h
  rwa [show j+1+i=j+(i+1)by omega]at this
theorem DefN.aok2 {P:Program}{w:World}{K:PySem.W.Frag}{mg:Str->Option Value}{base:Heap}{x:Str}{st:Stmt}{N ps:List Str}{k:Nat}{a:AS}(D:DefN K mg x st ps)(Sc:b0f N ps (a0i st))(pr:Nat->Bool)(us:En)(S:ASp)(hus:List.replicate (N.length - ps.length) Sv.un=us)
  (hbody:∀(f:Addr) (cdv:Value) (A:Around) (outer:List Env) (s:Shared) (H:Hp) (E:XK),Room k (A.deeper (envOfC x (a0i st) s.heap.objs.size f cdv)) ->
   ∃t,PSs (cxOf CX0 P w K mg base N x (a0i st) f cdv A outer s H E).nox (e0m st) t/\TSok K pr t a)
  (hS:∀ss q,S ss q->ss.length=ps.length/\ownB pr ss 0=true/\a ⟨fun ρ=>q (.d .non) (outS ss ρ),fun r ρ=>fin pr r ρ fun r' ρ'=>q r' (outS ss ρ'),fun _=>False,fun _=>False⟩ (ss++us)):OkN P w K mg base (k+1) x ps (spA K S) :=
 D.aok Sc pr S hbody fun ss q h=>⟨(hS ss q h).1,fun i hi=>by have:=t0h (hS ss q h).2.1 i hi;rwa [Nat.zero_add]at this,by rw[hus];exact(hS ss q h).2.2⟩
theorem f0i {lo:Int}{n k:Nat}{d:D}(h:(rngD lo n)[k]? = some d):k<n/\d = .int (lo+k):=by
 unfold rngD at h
 rw[List.getElem?_map]at h
 obtain⟨j,e1,e2⟩:=Option.map_eq_some_iff.mp h
 have lt:k<n:=by
  rcases Nat.lt_or_ge k n with q | q
  ·exact q
  ·rw[List.getElem?_eq_none (by simpa using q)]at e1;cases e1
 rw[List.getElem?_range lt]at e1
 cases e1
 exact⟨lt,e2.symm⟩
abbrev b1b (n:Nat)(js:List Nat)(g:AG)(tc:AT)(te:AE)(ρ:En)(d:D)(acc:List D)(N:List D->En->Prop):Prop :=
 g d (blkE n js ρ) fun ρ1=>tc ρ1 fun b ρ2=>if b=true then te ρ2 fun r ρ3=>sto [r.frz] ρ3 fun es ρ4=>N (acc++es) (back ρ (js.map R.o) (ρ4.drop n))else N acc (back ρ (js.map R.o) (ρ2.drop n))
section
variable {n:Nat}{js:List Nat}{c:En->Prop}{g:AG}{tc:AT}{te:AE}{q:List D->En->Prop}
theorem j0c {α:Type}(h:α->D)(f:α->D){xs:List α}{ρ:En}(hc:c ρ)(hs:∀x acc (N:List D->En->Prop),x∈xs->N (acc++[f x]) ρ->b1b n js g tc te ρ (h x) acc N)
  (hd:q (xs.map f) ρ):g0t n js c g tc te q (xs.map h) [] ρ:=by
 refine d0b (fun k acc ρ'=>ρ'=ρ/\acc=(xs.take k).map f) (fun k acc ρ' _ h=>h.1▸hc) ?_ ?_ ρ ⟨rfl,rfl⟩
 ·rintro k d acc _ N hk ⟨rfl,rfl⟩ hN
  rw[List.getElem?_map]at hk
  obtain⟨x,e1,rfl⟩:=Option.map_eq_some_iff.mp hk
  refine hs x _ N (List.mem_of_getElem? e1) (hN _ _ ⟨rfl,?_⟩)
  rw[List.take_add_one,e1,Option.toList_some,List.map_append];rfl
 ·rintro acc _ ⟨rfl,rfl⟩
  rw[List.length_map,List.take_length];exact hd
end
section
variable {c:En->Prop}{g:AG}{b:AS}{e:o0f}
theorem g0p {lo:Int}{m:Nat}(I:Nat->En->Prop)(hc:∀k ρ,I k ρ->c ρ)(hs:∀(k:Nat) ρ (N:En->Prop),k<m->I k ρ->(∀ ρ',I (k+1) ρ'->N ρ')->g (.int (lo+k)) ρ fun ρ1=>b {nx:=N,ct:=N,bk:=e.nx,rt:=e.rt} ρ1)
  (hd:∀ ρ,I m ρ->e.nx ρ) {ρ:En} (h0:I 0 ρ):forA c g b e (rngD lo m) ρ:=by
 refine l0r I (fun k ρ _ h=>hc k ρ h) (fun k d ρ N hk h hN=>?_) (fun ρ h=>hd ρ (by rwa [c0e]at h)) ρ h0
 obtain⟨lt,rfl⟩:=f0i hk
 exact hs k ρ N lt h hN
theorem q0p {α:Type}(h:α->D){xs:List α}(I:Nat->En->Prop)(hc:∀k ρ,I k ρ->c ρ)(hs:∀(k:Nat) x ρ (N:En->Prop),xs[k]? = some x->I k ρ->(∀ ρ',I (k+1) ρ'->N ρ')->g (h x) ρ fun ρ1=>b {nx:=N,ct:=N,bk:=e.nx,rt:=e.rt} ρ1)
  (hd:∀ ρ,I xs.length ρ->e.nx ρ) {ρ:En} (h0:I 0 ρ):forA c g b e (xs.map h) ρ:=by
 refine l0r I (fun k ρ _ h=>hc k ρ h) (fun k d ρ N hk h' hN=>?_) (fun ρ h=>hd ρ (by rwa [List.length_map]at h)) ρ h0
 rw[List.getElem?_map]at hk
 obtain⟨x,e1,rfl⟩:=Option.map_eq_some_iff.mp hk
 exact hs k x ρ N e1 h' hN
end
theorem e0s {xs:List Nat}{i:Nat}(h:i<xs.length):atI (a0e xs) ((i:Nat):Int)=some (.int (xs.getD i 0:Nat)):=by
 refine p0q ?_
 unfold a0e
 rw[List.getElem?_map,List.getElem?_eq_getElem h]
 simp[h]
theorem c0t {neg:Bool}{r1 r2:R}{ρ:En}{q:Ko}{d e:D}{b:Bool}(h1:view ρ r1=some d)(h2:view ρ r2=some e)(hd:d.depth<=60)(hb:eqD d e=b)(hq:q (.d (.bl (if neg then !b else b))) ρ):gEq neg r1 r2 ρ q:=by
 unfold gEq
 rw[h1,h2]
 subst hb
 exact⟨hd,hq⟩
theorem p0h (ns:List Int):depths (ns.map D.int)=0:=by
 induction ns with
 | nil=>simp[depths]
 | cons n ns ih=>rw[List.map_cons];unfold depths;rw[ih];simp[D.depth]
theorem b0q (ns:List Nat):(D.lst (a0e ns)).depth<=60:=by
 have:a0e ns=(ns.map fun(n:Nat)=>(n:Int)).map D.int:=by unfold a0e;simp
 rw[this];unfold D.depth;rw[p0h];decide
theorem g0a {r1:R}{ρ:En}{q:Ko}{ds:List D}{i:Int}{d:D}(hv:view ρ r1=some (.tup ds))(h:atI ds i=some d)(hq:q (.d d) ρ):gIx r1 (.d (.int i)) ρ q:=by
 unfold gIx
 rw[hv]
 simp only[h]
 exact hq
theorem c1z {r1:R}{ρ:En}{q:Ko}{ds:List D}{i:Int}{d:D}(hv:view ρ r1=some (.lst ds))(h:atI ds i=some d)(hq:q (.d d) ρ):gIx r1 (.d (.int i)) ρ q:=by
 unfold gIx
 rw[hv]
 simp only[h]
 exact hq
theorem e0k {r:R}{ρ:En}{q:Ko}{d:D}{n:String}{b:Bool}(hv:view ρ r=some d)(h:isaT (tyD d) n=some b)(hq:q (.d (.bl b)) ρ):gIsa [r,.t n] ρ q:=by
 unfold gIsa
 simp only[hv,h]
 exact hq
theorem u0j {r:R}{ρ:En}{q:Ko}{ns:List Int}(hv:view ρ r=some (.lst (ns.map D.int)))(h1:∀n∈ns,0<=n)(h2:ns.sum<2^62)(hq:q (.d (.int ns.sum)) ρ):gSum [r] ρ q:=by
 unfold gSum
 simp only[hv,g0z]
 exact⟨h1,h2,hq⟩
def isI:D->Bool
 | .int _=>true
 | _=>false
theorem cutS {A B:AS}{e:o0f}{ρ:En}(P:En->Prop)(h1:∀N:En->Prop,(∀ ρ',P ρ'->N ρ')->A {e with nx:=N} ρ)(h2:∀ ρ',P ρ'->B e ρ'):aSeq A B e ρ:=h1 (B e) h2
theorem r0m {x:Int}{n:Nat}(h:x=(n:Nat)):Sv.vl (.int x)=nv n:=by rw[h]
def j0j:ASp:=fun ss q=>∃d:D,ss=[.vl d]/\q (.d (.bl (isI d))) [.vl d]
theorem f0l (xs:List Nat)(x:Nat):a0e (xs++[x])=a0e xs++[nD x]:=by unfold a0e;rw[List.map_append];rfl
theorem n0s (xs:List D)(k:Nat):cutD xs none (some ((k:Nat):Int))=xs.take k:=by
 unfold cutD
 have e0:HT.sIx xs.length 0 none=0:=rfl
 rw[e0,List.drop_zero,Nat.sub_zero,HT.sIx_nat]
 rcases Nat.le_total k xs.length with h | h
 ·rw[Nat.min_eq_left h]
 ·rw[Nat.min_eq_right h,List.take_of_length_le (Nat.le_refl _),List.take_of_length_le h]
theorem a0h (xs:List Nat):(a0e xs).length=xs.length:=by rw[List.length_map]
end L2
namespace HT
open PySem PySem.Spec PyProof.Rows
theorem tup_whole {prog:Program}{w:World}{A:Around}{E:Value->Shared->Prop}{s:Shared}{t sl:Addr}{items:Array Value}{vl vu:Value}{lo hi:Option Int}{Q:Value->Shared->Prop}(ht:IsTup s.heap t items)(hs:s.heap.IsSliceOf sl vl vu .none)(pl:IsPart vl lo)(pu:IsPart vu hi)
  (hw:sIx items.size 0 lo=0/\sIx items.size items.size hi=items.size) (h:Q (.ref t) s):wpAny (model prog w) A (getItem (.ref t) (.ref sl)) Q E s:=by
 obtain⟨os,hos,hcs,hds⟩:=id hs
 have hTs:s.TypeIs (.ref sl) "slice" := ⟨os,hos,hcs⟩
 unfold getItem
 try with_reducible refine wpAny_holding ?_
 first | refine wpAny_bind (wpAny_pure ?_) | skip
 refine wpAny_bind (wpAny_sequenceKey ht.typeIs (by decide) ?_)
 refine wpAny_bind (wpAny_callSpecial?_slot (name:=Str.ofString "__getitem__") ht.typeIs PyProof.Rows.slot_tuple_getitem
  (wpAny_call_entry PyProof.Rows.slot_tuple_getitem ht.typeIs entry_tuple_getitem ?_ (args_tuple_getitem _ _)))
 show wpAny _ _ (Builtin.Tuple.tupleItemsOf (.ref t)>>=_) _ _ s
 refine wpAny_bind (tupleItemsOf_ ht ?_)
 refine wpAny_bind (wpAny_typeOf hTs ?_)
 rw[if_pos (by decide)]
 refine wpAny_bind (e0t hs pl pu ?_)
 have yes:(((sIx items.size 0 lo:Nat):Int)==0&&(1:Int)==1&&(sIx items.size items.size hi - sIx items.size 0 lo)==items.size)=true:=by
  rw[hw.1,hw.2];simp
 show wpAny _ _ (if(((sIx items.size 0 lo:Nat):Int)==0&&(1:Int)==1&&(sIx items.size items.size hi - sIx items.size 0 lo)==items.size)=true then _ else _) _ _ s
 rw[if_pos yes]
 have hex:∀ {R:Bool->Shared->Prop} {E':Value->Shared->Prop} {A'},R true s->wpAny (model prog w) A' (Builtin.Tuple.tupleIsExact (.ref t)) R E' s:=fun hR=>by
  unfold Builtin.Tuple.tupleIsExact
  exact wpAny_bind (wpAny_typeOf ht.typeIs (wpAny_pure hR))
 refine wpAny_bind (hex ?_)
 rw[if_pos rfl]
 first
  | exact wpAny_bind (wpAny_rule (wpAny_bind (wpAny_pure (wpAny_pure ⟨_,rfl,wpAny_pure h⟩))))
  | exact wpAny_bind (wpAny_rule (wpAny_pure ⟨_,rfl,wpAny_pure h⟩))
  | exact wpAny_bind (wpAny_rule (wpAny_bind (wpAny_pure ⟨_,rfl,wpAny_pure h⟩)))
  | exact wpAny_rule (wpAny_bind (wpAny_pure ⟨_,rfl,wpAny_pure h⟩))
end HT
namespace L2
open PySem PySem.Spec PyProof.Rows
section
variable {X:Cx}(K:PySem.W.Frag)
def b1r (K:PySem.W.Frag):V->Option Int->Option Int->Hp->VK->Prop:=fun x lo hi H Q=>∃a xs,x = .ref a/\SqT K H a xs /\
 ((HT.sIx xs.length 0 lo=0/\HT.sIx xs.length xs.length hi=xs.length)->Q (.ref a) H)/\(¬(HT.sIx xs.length 0 lo=0/\HT.sIx xs.length xs.length hi=xs.length)->∀p,H p=none->Q (.ref p) (upd H p (.tup (cutV xs lo hi))))
theorem s0w (hK:X.K=K:=by rfl):SlR X (b1r K):=by
 subst hK
 intro pins s σ H x v vl vu lo hi sl Q I rx hs pl pu h
 obtain⟨a,xs,rfl,hx,q1,q2⟩:=h
 by_cases hw:HT.sIx xs.length 0 lo=0/\HT.sIx xs.length xs.length hi=xs.length
 ·cases rx
  obtain⟨its,r,ht,hz⟩:=I.tuple hx
  have hlen:its.toArray.size=xs.length:=by rw[List.size_toArray];exact r.length.symm
  refine⟨"tuple",_,PyProof.Rows.slot_tuple_getitem.lookup,ht.typeIs,?_⟩
  exact HT.tup_whole ht hs pl pu (by rw[hlen];exact hw) ⟨.ref a,H,I,rfl,q1 hw⟩
 ·exact b1l pins s σ H (.ref a) v vl vu lo hi sl Q I rx hs pl pu ⟨a,xs,rfl,hx,hw,q2 hw⟩
end
section
variable {K:PySem.W.Frag}{ta:TE}{a:AE}
def aSlT (a:AE)(l u:AO):AE:=fun ρ q=>a ρ fun r ρ1=>l ρ1 fun lo ρ2=>u ρ2 fun hi ρ3=>match view ρ3 r.frz with
 | some (.tup ds)=>q (.d (.tup (cutD ds lo hi))) ρ3
 | _=>False
theorem w0q {ds:List D}{lo hi:Option Int}(h:HT.sIx ds.length 0 lo=0/\HT.sIx ds.length ds.length hi=ds.length):cutD ds lo hi=ds:=by
 unfold cutD
 rw[h.1,h.2];simp
theorem s0f {tl th:TO}{al au:AO}(ha:TEok K ta a)(hl:TOok K tl al)(hh:TOok K th au):TEok K (tSl (b1r K) ta tl th) (aSlT a al au):=by
 intro F σ ρ H q Q r h k
 refine ha F σ ρ H _ _ r h fun r1 ρ1 x H1 h1 rel1=>?_
 obtain⟨r',k1,i1⟩:=rel1.inF
 refine hl F σ ρ1 H1 _ _ r' h1 fun lo ρ2 H2 h2 r2 k2=>?_
 refine hh F σ ρ2 H2 _ _ r2 h2 fun hi ρ3 H3 h3 r3 k3=>?_
 have kk:=((k.after k1).after k2).after k3
 split at h3
 ·rename_i ds e
  obtain⟨p,vs,rfl,sq,rd,sv⟩:=f0f r3 ((i1.keep k2).keep k3) e
  refine⟨p,vs,rfl,sq,fun z=>?_,fun _ p' hp=>kk.newT r3 h3 (z0u rd) hp⟩
  refine kk.dat r3 h3 ?_
  rw[rd.length]at z
  rw[w0q z]
  unfold RepD
  exact⟨p,vs,rfl,sv,rd⟩
 ·exact h3.elim
end
section
variable {X:Cx}{pins:List (Addr×Obj)}{σ:St}{H:Hp}{s:Shared}{h':Heap}
theorem Inv.turns {t':Nat}{ch:List Addr}(I:Inv X pins σ H s)(k:∀b o,b∉ch->s.heap.get? b=some o->h'.get? b=some o)(hf:∀b∈ch,FpOk X pins H b):Inv X pins σ H {s with heap:=h',toks:=t'}:=by
 have nit:∀b u,H b=some u->b∉ch:=fun b u e z=>by rw[(hf b z).1]at e;cases e
 refine I.step (g':=s.gens) (d':=s.drawn) (ch:=ch) (fun b hb=>?_) (fun b o _ _ hc e _=>k b o hc e) (fun b o _ _ hc e _=>⟨o.slots,k b o hc e⟩) (fun _ _ _ _ n=>n)
  (fun b o hc e=>⟨o,k b o hc e⟩) (fun _ _ e=>e) (fun _ _ _ e=>e) (fun b ps e=>⟨#[],by rw[e];simp⟩) (fun m hm=>?_) (fun b u e=>?_) I.bare
 ·obtain⟨_,h2,_,h4,h5,h6⟩:=hf b hb
  exact⟨h4,h2,h5,h6⟩
 ·obtain⟨o,es,ep,ho,r⟩:=hm
  exact⟨o,es,ep,k _ o (fun z=>(hf _ z).2.1 rfl) ho,r⟩
 ·refine(I.hok b u e).stay (fun c v hc q=>k c v ?_ q) (fun _ q=>q) fun _ _ q=>q
  rcases hc with z | z
  ·rw[z];exact nit b u e
  ·exact nit c _ z
theorem Inv.trackO {p:Addr}{o:HO}(I:Inv X pins σ H s)(hf:FpOk X pins H p)(new:c0s X.prog X.w (upd H p o) s.heap p o):Inv X pins σ (upd H p o) s:=by
 have hn:=hf.1
 refine I.call' (ch:=[p]) rfl ⟨fun b u e _ _ _=>e,fun b u e _ _ _=>⟨u.slots,e⟩,fun b u e n hx=>?_,fun b u e _=>⟨u,e⟩,fun b xs e=>?_,fun b u v e=>?_,fun b ps e=>⟨#[],?_⟩⟩ (fun b u e=>?_) I.bare (fun b hb=>?_)
 ·rw[a0o (fun z=>hx (by simp[z]))];exact n
 ·rw[a0o (a0t e hn)];exact e
 ·rw[a0o (a0t e hn)];exact e
 ·rw[a0o (a0t e hn),e];simp
 ·by_cases hb:b=p
  ·subst hb;rw[b0i]at e;cases e;exact new
  ·rw[a0o hb]at e
   exact(I.hok b u e).stay (fun c v _ q=>q) (fun c q=>by rw[a0o (a0t q hn)];exact q) fun c xs q=>by rw[a0o (a0t q hn)];exact q
 ·rw[List.mem_singleton.mp hb]
  obtain⟨_,h2,_,h4,h5,h6⟩:=hf
  exact⟨h4,h2,h5,h6⟩
end
section
variable {K:PySem.W.Frag}{ta te:TE}{a ae:AE}{ts:TA}{as:AA}
def e1j (a:AE):AE:=fun ρ q=>a ρ fun r ρ1=>match r with
 | .d (.int i)=>q (.d (.int (Builtin.Int.intBits i:Nat))) ρ1
 | _=>False
theorem v0o (ha:TEok K ta a):TEok K (tBM0 K "int" (fun x xs H Q=>∃i,x = .int i/\xs=[]/\Q (.int (Builtin.Int.intBits i:Nat)) H) ta) (e1j a):=by
 intro F σ ρ H q Q r h k
 refine ha F σ ρ H _ _ r h fun r1 ρ1 x H1 h1 o1=>?_
 obtain⟨r1',k1,i1⟩:=o1.inF
 split at h1
 ·rename_i i
  have ex:x = .int i:=i1.int
  subst ex
  exact⟨by first | rfl | exact .inl rfl | trivial | simp[tyV],i,rfl,rfl,(k.after k1).int r1' h1⟩
 ·exact h1.elim
end
section
variable {K:PySem.W.Frag}{ts:TA}{as:AA}
def i0w (k:Nat):List D->List D
 | []=>[]
 | d::ds=>.tup [.int (k:Nat),d]::i0w (k+1) ds
theorem g0r:∀ {ds:List D} {b k:Nat} {d:D},(i0w b ds)[k]? = some d->∃x,ds[k]? = some x/\d = .tup [.int ((b+k:Nat):Int),x]
 | [],b,k,d,h=>by simp[i0w]at h
 | x::ds,b,0,d,h=>by
  simp only[i0w,List.getElem?_cons_zero,Option.some.injEq]at h
  exact⟨x,rfl,h.symm⟩
 | x::ds,b,k+1,d,h=>by
  simp only[i0w,List.getElem?_cons_succ]at h
  obtain⟨a,e1,e2⟩:=g0r (ds:=ds) (b:=b+1) (k:=k) h
  exact⟨a,by simpa using e1,by rw[e2,show b+1+k=b+(k+1)by omega]⟩
theorem g0q:∀(ds:List D) (b:Nat),(i0w b ds).length=ds.length
 | [],b=>rfl
 | x::ds,b=>by simp only[i0w,List.length_cons,g0q ds]
end
open Builtin.SmallTypes (nextOf)
structure Feed (prog:Program)(w:World)(it:Addr)(dep:List Addr)(St:Nat->Heap->Prop)(gv:Nat->Option Value):Prop where
 mem:it∈dep
 obj:∀i h,St i h->∃o vs n,h.get? it=some o/\o.data = .fields vs/\o.cls = .type n/\n ≠ "zip"
 keep:∀i h h',St i h->(∀b o,b∈dep->h.get? b=some o->h'.get? b=some o)->St i h'
 item:∀(A:Around) i (s:Shared) x (Q:Value->Shared->Prop) E,St i s.heap->gv i=some x->(∀h',St (i+1) h'->Heap.SameBut it s.heap h'->Q x {s with heap:=h'})->wpAny (model prog w) A (nextOf (.ref it)) Q E s
 fin:∀(A:Around) i (s:Shared) (Q:Value->Shared->Prop) E,A.handled=none->St i s.heap->gv i=none->(∀h' e,Heap.ExtBut it s.heap h'->(∃o,h'.get? e=some o/\o.cls = .type "StopIteration")->E (.ref e) {s with heap:=h'})->wpAny (model prog w) A (nextOf (.ref it)) Q E s
section
variable {prog:Program}{w:World}
theorem l0u {it l:Addr}{xs:Array Value}(hne:l≠it):Feed prog w it [it,l] (fun i h=>h.IsTupleIter it l i/\h.IsTuple l xs) (fun i=>xs[i]?) where
 mem:=by simp
 obj:=fun i h ⟨⟨o,e,c,d⟩,_⟩=>⟨o,_,_,e,d,c,by decide⟩
 keep:=fun i h h' ⟨a,b⟩ k=>⟨a.at fun o e=>k it o (by simp) e,by obtain⟨o,e,r⟩:=b;exact⟨o,k l o (by simp) e,r⟩⟩
 item:=fun A i s x Q E ⟨a,b⟩ hx k=>by
  obtain⟨o,ho,hc,hd⟩:=id a
  obtain⟨ol,hol,rr,nl,hdl⟩:=id b
  unfold nextOf
  refine wpAny_bind (wpAny_callSpecial?_slot (name:=Str.ofString "__next__") a.typeIs F.slot_tuple_iterator_next (wpAny_call_entry F.slot_tuple_iterator_next a.typeIs F.entry_tuple_iterator_next ?_ (F.args_tuple_iterator_next_1 _)))
  show wpAny _ _ (field (.ref it) 0>>=_) _ _ s
  refine wpAny_bind (wpAny_field ho hd (x:=.ref l) rfl ?_)
  show wpAny _ _ (if(Value.ref l==Value.none)=true then _ else _) _ _ s
  rw[if_neg (fun z=>by cases z)]
  show wpAny _ _ (field (.ref it) 1>>=_) _ _ s
  refine wpAny_bind (wpAny_field ho hd (x:=.int i 0) rfl ?_)
  show wpAny _ _ (seqItems? (.ref l)>>=_) _ _ s
  refine wpAny_bind (wpAny_seqItems hol hdl ?_)
  simp only[Int.toNat_natCast,hx]
  refine wpAny_bind (wpAny_setField ho hd (by simp) (wpAny_pure ⟨x,rfl,wpAny_pure ?_⟩))
  refine k _ ⟨⟨_,Heap.get?_update_self _ ho (Obj.isFreed_of_fields (Obj.data_mapFields hd _)),(Obj.cls_mapFields ..).trans hc,by rw[Obj.data_mapFields hd];simp[rawInt]⟩,ol,?_,rr,nl,hdl⟩ (Heap.SameBut.update ..)
  exact((Heap.SameBut.update ..).2 l hne).trans hol
 fin:=fun A i s Q E hh ⟨a,b⟩ hx k=>by
  obtain⟨o,ho,hc,hd⟩:=id a
  obtain⟨ol,hol,rr,nl,hdl⟩:=id b
  unfold nextOf
  refine wpAny_bind (wpAny_callSpecial?_slot (name:=Str.ofString "__next__") a.typeIs F.slot_tuple_iterator_next (wpAny_call_entry F.slot_tuple_iterator_next a.typeIs F.entry_tuple_iterator_next ?_ (F.args_tuple_iterator_next_1 _)))
  show wpAny _ _ (field (.ref it) 0>>=_) _ _ s
  refine wpAny_bind (wpAny_field ho hd (x:=.ref l) rfl ?_)
  show wpAny _ _ (if(Value.ref l==Value.none)=true then _ else _) _ _ s
  rw[if_neg (fun z=>by cases z)]
  show wpAny _ _ (field (.ref it) 1>>=_) _ _ s
  refine wpAny_bind (wpAny_field ho hd (x:=.int i 0) rfl ?_)
  show wpAny _ _ (seqItems? (.ref l)>>=_) _ _ s
  refine wpAny_bind (wpAny_seqItems hol hdl ?_)
  simp only[Int.toNat_natCast,hx]
  refine wpAny_bind (wpAny_rule (wpAny_bind (wpAny_setField ho hd (by simp) ?_)))
  show wpAny _ _ (newExc (.type "StopIteration") []>>=_) _ _ _
  refine wpAny_bind ?_
  simp only[newExc,newTuple]
  refine wpAny_bind (wpAny_newObj_type ?_ (by size_fits))
  refine wpAny_bind (m:=firstArgMember _ _) (wpAny_of_eq (a:=Value.none) (by first | rfl | (simp only[firstArgMember];rfl)) ?_)
  refine wpAny_newObj_type ?_ (by size_fits)
  simp only[raiseNew]
  refine wpAny_bind (wpAny_handled ?_)
  first | rw[show A.in1.handled=none from hh] | rw[hh]
  refine wpAny_bind (wpAny_pure (wpAny_throw ?_))
  exact k _ _ (((Heap.SameBut.update ..).extBut.push _).push _) ⟨_,Heap.get?_push_size _ rfl,rfl⟩
variable {A:Around}{E:Value->Shared->Prop}{s:Shared}{z TI TO i1 i2:Addr}{d1 d2:List Addr}{S1 S2:Nat->Heap->Prop}{g1 g2:Nat->Option Value}
end
section
variable {X:Cx}(K:PySem.W.Frag)
theorem p0m {P:Program}{w:World}{A:Around}{its:List Value}{ns:List Int}(rv:Vals (ns.map V.int) its):CmpOf P w A .Lt (fun i v=>its.toArray[i]? = some v) (fun i j=>decide (ns.getD i 0<ns.getD j 0)):=by
 have go:∀ {i:Nat} {v:Value},its.toArray[i]? = some v->∃t,v = .int (ns.getD i 0) t:=fun{i v} hv=>by
  have hv':its[i]? = some v:=by simpa using hv
  have hi:i<its.length:=(List.getElem?_eq_some_iff.mp hv').1
  have hl:its.length=ns.length:=by have:=rv.length;rw[List.length_map]at this;omega
  obtain⟨u,e1,e2⟩:=rv.get (i:=i) (x:=V.int ns[i]) (by rw[List.getElem?_map,List.getElem?_eq_getElem (by omega)];rfl)
  rw[hv']at e1;cases e1
  obtain⟨t,rfl⟩:=e2
  exact⟨t,by rw[List.getD_eq_getElem?_getD,List.getElem?_eq_getElem (by omega)];rfl⟩
 exact CmpOf.ints_lt (fun i=>ns.getD i 0) (fun _ _=>go)
def b1s (K:PySem.W.Frag):List V->Hp->VK->Prop:=fun xs H Q=>∃(p:Addr) (ns:List Int),xs=[.ref p]/\SqL K H p (ns.map V.int)/\ns≠[]/\∀M,M∈ns->(∀a∈ns,M<=a)->Q (.int M) H
theorem n0w (hc:X.calm=true)(hK:X.K=K:=by rfl):h0g X (.builtin "min") (b1s K):=by
 subst hK
 intro pins s σ H xs us Q I r h
 obtain⟨a,ns,rfl,hq,hn0,q1⟩:=h
 obtain⟨u1,rfl,ru⟩:=m0h r
 cases ru
 obtain⟨its,rv,pl,hz⟩:=I.list hq
 have hl:its.length=ns.length:=by have:=rv.length;rw[List.length_map]at this;omega
 have hpos:0<ns.length:=List.length_pos_iff.mpr hn0
 have hne:a≠s.heap.objs.size:=Nat.ne_of_lt (by obtain⟨o,n,e,_⟩:=pl;exact Heap.lt_size e)
 refine call_min_walk (wpAny_pyIter_list pl.isList ?_)
 refine⟨s.heap.objs.size,_,_,_,_,_,_,rfl,Walks.list (A:=X.A.in1) (show X.A.in1.handled=none from I.ok.hd hc) s.heap.objs.size a hne its.toArray,⟨⟨_,Heap.get?_push_size _ rfl,rfl,rfl⟩,pl.isList.at fun o e=>Heap.get?_push_of_some _ e⟩,fun b hb=>?_,by rw[List.size_toArray,hl];exact hpos,p0m rv,fun v g z hv kp=>?_⟩
 ·rw[Heap.size_push]
  rcases List.mem_cons.mp hb with rfl | hb
  ·exact Nat.lt_succ_self _
  ·rw[List.mem_singleton.mp hb]
   obtain⟨o,n,e,_⟩:=pl
   exact Nat.lt_succ_of_lt (Heap.lt_size e)
 ·rw[List.size_toArray,hl]at hv
  obtain⟨m1,m2⟩:=argBest_lt (fun i=>ns.getD i 0) (ns.length - 1)
  have hlt:argBest (fun i j=>decide (ns.getD i 0<ns.getD j 0)) (ns.length - 1)<ns.length:=by omega
  have hv':its[argBest (fun i j=>decide (ns.getD i 0<ns.getD j 0)) (ns.length - 1)]? = some v:=by simpa using hv
  obtain⟨x,e1,e2⟩:=rv.get (i:=argBest (fun i j=>decide (ns.getD i 0<ns.getD j 0)) (ns.length - 1)) (x:=V.int (ns.getD (argBest (fun i j=>decide (ns.getD i 0<ns.getD j 0)) (ns.length - 1)) 0)) (by
   rw[List.getElem?_map,List.getElem?_eq_getElem hlt,List.getD_eq_getElem?_getD,List.getElem?_eq_getElem hlt];rfl)
  rw[hv']at e1;cases e1
  refine⟨_,H,I.kept fun b o e=>?_,e2,q1 _ (getD_mem hlt) fun y hy=>?_⟩
  ·refine kp b o (fun z=>?_) (Heap.get?_push_of_some _ e)
   rw[List.mem_singleton.mp z]at e
   exact absurd (Heap.lt_size e) (Nat.lt_irrefl _)
  ·obtain⟨j,hj,rfl⟩:=mem_getD hy
   exact m2 j (by omega)
end
section
variable {K:PySem.W.Frag}{ta:TE}{a:AE}{ts:TA}{as:AA}
@[irreducible] def gMin1:List R->AE:=fun rs ρ q=>match rs with
 | [r]=>(match view ρ r with
  | some (.lst ds)=>(match d0u ds with | some ns=>ns≠[]/\(∀M,M∈ns->(∀a∈ns,M<=a)->q (.d (.int M)) ρ) | none=>False)
  | _=>False)
 | _=>False
theorem n0u:CbOk K (b1s K) gMin1:=by
 intro F σ ρ H vs rs q Q a i h b
 unfold gMin1 at h
 split at h
 ·obtain⟨y,rfl,iy⟩:=i.one
  split at h
  ·rename_i ds e
   split at h
   ·rename_i ns e'
    obtain⟨l,us,rfl,sq,rd⟩:=c0d a iy e
    rw[g0n e',g0w]at rd
    rw[rd]at sq
    exact⟨l,ns,rfl,sq,h.1,fun M hM hle=>b.int a (h.2 M hM hle)⟩
   ·exact h.elim
  ·exact h.elim
 ·exact h.elim
theorem q0o {r:R}{ρ:En}{q:Ko}{ns:List Int}(hv:view ρ r=some (.lst (ns.map D.int)))(h0:ns≠[])(h1:∀M,M∈ns->(∀a∈ns,M<=a)->q (.d (.int M)) ρ):gMin1 [r] ρ q:=by
 unfold gMin1
 simp only[hv,g0z]
 exact⟨h0,h1⟩
end
theorem b0r:∀(names:List (Str×NameKind)) (n:Nat) (acc:List (Str×Addr)),cellsFrom n names acc=cellsFrom n names []++acc
 | [],n,acc=>rfl
 | (x,k)::r,n,acc=>by
  unfold cellsFrom
  split
  ·rw[b0r r (n+1) ((x,n)::acc),b0r r (n+1) [(x,n)],List.append_assoc];rfl
  ·exact b0r r n acc
theorem e0n:∀(names:List (Str×NameKind)) (n:Nat) (acc:List (Str×Addr)) {x:Str} {c:Addr},(x,c)∈cellsFrom n names acc->(x,NameKind.cell)∈names∨(x,c)∈acc
 | [],n,acc,x,c,h=>.inr h
 | (y,k)::r,n,acc,x,c,h=>by
  unfold cellsFrom at h
  split at h
  ·rename_i hk
   rcases e0n r _ _ h with q | q
   ·exact .inl (.tail _ q)
   ·rcases List.mem_cons.mp q with z | z
    ·cases z
     have:k = .cell:=by simpa using hk
     subst this
     exact .inl (.head _)
    ·exact .inr z
  ·rcases e0n r _ _ h with q | q
   ·exact .inl (.tail _ q)
   ·exact .inr q
theorem e0o:∀(names:List (Str×NameKind)) (n:Nat) (acc:List (Str×Addr)) {x:Str},(x,NameKind.cell)∈names->∃c,(x,c)∈cellsFrom n names acc
 | [],n,acc,x,h=>nomatch h
 | (y,k)::r,n,acc,x,h=>by
  unfold cellsFrom
  rcases List.mem_cons.mp h with z | z
  ·cases z
   rw[if_pos (show(NameKind.cell==NameKind.cell)=true from rfl),b0r]
   exact⟨n,List.mem_append.mpr (.inr (.head _))⟩
  ·split
   ·exact e0o r _ _ z
   ·exact e0o r _ _ z
def f0s (scope:Scope)(C:Addr)(env:Env):List (Str×Addr):=cellsFrom (C+1) scope.names (d0c scope env)
def relS (scope sc:Scope):Scope :=
 {scope with names:=scope.names.map fun(n,k)=>if(k == .free&&sc.kind == .function&&sc.names.lookup n==some .cell)then(n,.cell)else(n,k)}
def blkC (X:Cx)(scope:Scope)(N:List Str)(s:Shared)(H:Hp)(C:Addr)(fp:List Addr):Cx where
 prog:=X.prog
 w:=X.w
 K:=X.K
 mg:=X.mg
 base:=X.base
 A:=X.A
 N:=N
 s₀:=s
 H₀:=H
 env:=compEnvC scope (f0s scope C X.env) C X.env
 outer:=X.stack
 stack:=X.stack
 ex:=fp
 fn:=fun x=>scope.names.lookup x==some .cell
 calm:=X.calm
 pn:=[]
 xe:=fun _ _=>False
section
variable {M:Model}{A:Around}{E:Value->Shared->Prop}{s:Shared}
theorem h0z {scope:Scope}{cl:List (Str×Addr)}{env:Env}{Q:Env->Shared->Prop}
  (h:Q {scope,locals:=s.heap.objs.size,globals:=env.globals,cells:=cellsFrom (s.heap.objs.size+1) scope.names cl,qual:=env.qual,func:=none,code:=env.code,frame:=env.frame,builtins:=env.builtins}
   {s with heap:=pushCells (s.heap.push {cls:=.type "dict",data:=.dict #[]}) scope.names}) :
  wpAny M A (newFunctionEnv scope env.globals cl [] env.qual none .none (some env)) Q E s:=by
 simp only[newFunctionEnv,Option.isSome_some,if_true]
 refine wpAny_bind (wpAny_alloc ?_)
 refine wpAny_bind (wpAny_layCells _ (fun name kind cells=>by cases hkc:kind==NameKind.cell <;> simp[hkc]) _ _ _ _ ?_)
 rw[show({s with heap:=s.heap.push {cls:=.type "dict",data:=.dict #[]}}:Shared).heap.objs.size=s.heap.objs.size+1 from Heap.size_push ..]
 refine wpAny_bind ?_
 rw[List.forIn_nil]
 exact wpAny_pure (wpAny_pure h)
end
section
variable {X:Cx}
structure BlkC (X:Cx)(scope:Scope)(own:List Str)(js:List Nat):Prop where
 kind:scope.kind = .function
 cells:∀y∈scope.names,y.2 = .cell->scope.names.lookup y.1=some .cell
 names:∀y∈scope.names,y.2 = .local->scope.names.lookup y.1=some .local
 free:∀y∈scope.names,y.2 = .free->X.env.kindOf y.1=some .cell∨X.env.kindOf y.1=some .free
 uniq:∀x,(x,NameKind.free)∈scope.names->scope.names.lookup x=some .free
 nd:(own++capN X.N js).Nodup
 cap:∀j∈js,j<X.N.length/\((X.N[j]?).getD "",NameKind.free)∈scope.names
def d1g (sc:Scope)(N:List Str)(scope:Scope)(own:List Str)(js:List Nat):Bool :=
 scope.kind == .function&&scope.names.all (fun y=>y.2 != .cell||scope.names.lookup y.1==some .cell)&&scope.names.all (fun y=>y.2 != .local||scope.names.lookup y.1==some .local) &&
 scope.names.all (fun y=>y.2 != .free||sc.names.lookup y.1==some .cell||sc.names.lookup y.1==some .free)&&scope.names.all (fun y=>y.2 != .free||scope.names.lookup y.1==some .free) &&
 decide (own++capN N js).Nodup&&js.all (fun j=>decide (j<N.length)&&scope.names.any fun y=>y.1==(N[j]?).getD "" && y.2 == .free)
theorem BlkC.of {scope:Scope}{own:List Str}{js:List Nat}(sc:Scope)(N:List Str)(h:d1g sc N scope own js=true:=by decide +kernel)(e1:X.env.scope=sc:=by rfl)(e2:X.N=N:=by rfl):BlkC X scope own js:=by
 subst e1 e2
 unfold d1g at h
 simp only[Bool.and_eq_true,List.all_eq_true,decide_eq_true_eq,beq_iff_eq]at h
 obtain⟨⟨⟨⟨⟨⟨h1,h2⟩,h3⟩,h4⟩,h5⟩,h6⟩,h7⟩:=h
 refine⟨h1,fun y hy e=>?_,fun y hy e=>?_,fun y hy e=>?_,fun x hx=>?_,h6,fun j hj=>?_⟩
 ·have:=h2 y hy
  simpa [e] using this
 ·have:=h3 y hy
  simpa [e] using this
 ·have:=h4 y hy
  simp only[e,bne_self_eq_false,Bool.false_or,Bool.or_eq_true,beq_iff_eq]at this
  exact this
 ·have:=h5 _ hx
  simpa using this
 ·obtain⟨a,b⟩:=h7 j hj
  refine⟨a,?_⟩
  obtain⟨y,hy,e⟩:=List.any_eq_true.mp b
  simp only[Bool.and_eq_true,beq_iff_eq]at e
  obtain⟨e1,e2⟩:=e
  rw[<- e1,<- e2]
  exact hy
theorem f0e {scope:Scope}{C:Addr}{env:Env}{x:Str}{c:Addr}(h:(f0s scope C env).lookup x=some c):((x,c)∈cellsFrom (C+1) scope.names [])∨env.cells.lookup x=some c:=by
 unfold f0s at h
 rw[b0r,List.lookup_append]at h
 cases e:(cellsFrom (C+1) scope.names []).lookup x with
 | some d=>rw[e]at h;cases h;exact .inl (PySem.mem_of_lookup e)
 | none=>rw[e]at h;exact .inr (c0v h)
theorem k0n {scope:Scope}{C:Addr}{env:Env}{x:Str}(h:(x,NameKind.cell)∈scope.names):∃c,(f0s scope C env).lookup x=some c/\(x,c)∈cellsFrom (C+1) scope.names []:=by
 obtain⟨c,hc⟩:=e0o scope.names (C+1) [] h
 obtain⟨d,hd⟩:=d0e hc
 refine⟨d,?_,PySem.mem_of_lookup hd⟩
 unfold f0s
 rw[b0r,List.lookup_append,hd];rfl
theorem k0o {scope:Scope}{C:Addr}{env:Env}{x:Str}{c:Addr}(hn:(x,NameKind.cell)∉scope.names)(h:(x,NameKind.free)∈scope.names)(hc:env.cells.lookup x=some c):(f0s scope C env).lookup x=some c:=by
 unfold f0s
 rw[b0r,List.lookup_append]
 have:(cellsFrom (C+1) scope.names []).lookup x=none:=by
  cases e:(cellsFrom (C+1) scope.names []).lookup x with
  | none=>rfl
  | some d =>
   rcases e0n _ _ _ (PySem.mem_of_lookup e)with q | q
   ·exact(hn q).elim
   ·cases q
 rw[this]
 exact h0e h hc
theorem w0s {scope:Scope}{own:List Str}{js:List Nat}{pins:List (Addr×Obj)}{σ:St}{H:Hp}{s:Shared}{fp:List Addr}{C:Addr}{h1:Heap}{tk:Nat}(B:BlkC X scope own js)(I:Inv X pins σ H s)
  (hfp:∀b∈fp,FpOk X pins H b) (hfo:∀b∈fp,∃o,s.heap.get? b=some o) (hC:s.heap.objs.size<=C) (hns:h1.Ns C fun _=>none) (hcs:CellsOk h1 (C+1) (cellsFrom (C+1) scope.names [])) (hk:∀b o,s.heap.get? b=some o->h1.get? b=some o) :
  Inv (blkC X scope (own++capN X.N js) s H C fp) [] (bst own.length σ js) H {s with heap:=h1,toks:=tk}:=by
 have kindC:∀x,(blkC X scope (own++capN X.N js) s H C fp).env.kindOf x=some .cell∨(blkC X scope (own++capN X.N js) s H C fp).env.kindOf x=some .free->(x,NameKind.cell)∈scope.names∨(x,NameKind.free)∈scope.names:=fun x hx=>by
  have hx':(relabel scope X.env).names.lookup x=some .cell∨(relabel scope X.env).names.lookup x=some .free:=hx
  rcases hx' with z | z
  ·rcases b0l z with q | ⟨_,q⟩
   ·exact .inl (PySem.mem_of_lookup q)
   ·exact .inr (PySem.mem_of_lookup q)
  ·rcases b0l z with q | ⟨_,q⟩
   ·exact .inr (PySem.mem_of_lookup q)
   ·exact .inr (PySem.mem_of_lookup q)
 have notC:∀x,(x,NameKind.free)∈scope.names->(x,NameKind.cell)∉scope.names:=fun x hf hc=>by
  have:=B.cells (x,.cell) hc rfl
  rw[B.uniq x hf]at this
  cases this
 have ownGt:∀ {x c},(x,c)∈cellsFrom (C+1) scope.names []->C<c/\h1.IsCell c none:=fun{x c} e=>⟨(hcs.empty x c e).2,(hcs.empty x c e).1⟩
 have has:∀x,(x,NameKind.free)∈scope.names->∃c,X.env.cells.lookup x=some c:=fun x hx=>I.ok.has x (B.free (x,.free) hx rfl)
 have old:∀ {x c},(f0s scope C X.env).lookup x=some c->((x,c)∈cellsFrom (C+1) scope.names [])∨X.env.cells.lookup x=some c:=fun e=>f0e e
 have cellLt:∀ {x c},X.env.cells.lookup x=some c->c<s.heap.objs.size:=fun{x c} e=>by
  obtain⟨v,o,ho,_⟩:=I.cell x c e
  exact Heap.lt_size ho
 have fpLt:∀b∈fp,b<s.heap.objs.size:=fun b hb=>let ⟨_,e⟩:=hfo b hb;Heap.lt_size e
 have fsOk:∀b∈frs X.stack,b∈X.env.locals::X.fs:=I.stkSub
 refine⟨⟨I.ok.mod,?_,I.ok.glob,I.ok.blt,hC,fun x y c e1 e2=>?_,fun x hx=>?_,fun x c z e=>?_,I.ok.hd,I.ok.frames,.inl rfl,fun b hb=>⟨?_,fun x c e=>?_⟩,I.bs,Nat.le_trans I.ok.bsz I.sz,
   fun b o e hb=>?_,fun b hb hf=>?_,I.stack,I.stkFree⟩,rfl,I.bare,Un.kept hk,⟨_,hns,fun i x v e1 e2 e3=>?_⟩,fun x c e=>?_,?_,fun x c e=>?_,fun p hp=>absurd hp (by show p∉[]++[];simp),I.hok.kept hk,?_⟩
 ·show(relabel scope X.env).kind = .function
  exact B.kind
 ·rcases old e1 with q1 | q1
  ·rcases old e2 with q2 | q2
   ·exact PySem.name_of_addr hcs.apart q1 q2
   ·exact absurd (cellLt q2) (Nat.not_lt.mpr (Nat.le_trans hC (Nat.le_of_lt (ownGt q1).1)))
  ·rcases old e2 with q2 | q2
   ·exact absurd (cellLt q1) (Nat.not_lt.mpr (Nat.le_trans hC (Nat.le_of_lt (ownGt q2).1)))
   ·exact I.ok.inj x y c q1 q2
 ·rcases kindC x hx with q | q
  ·obtain⟨c,e,_⟩:=k0n (C:=C) (env:=X.env) q
   exact⟨c,e⟩
  ·obtain⟨c,e⟩:=has x q
   exact⟨c,k0o (notC x q) q e⟩
 ·have z0:(scope.names.lookup x==some NameKind.cell)=true:=z
  have z':scope.names.lookup x=some .cell:=by simpa using z0
  obtain⟨c',e',m'⟩:=k0n (C:=C) (env:=X.env) (PySem.mem_of_lookup z')
  have e'':(f0s scope C X.env).lookup x=some c:=e
  rw[e']at e''
  cases e''
  exact Nat.le_trans hC (Nat.le_of_lt (ownGt m').1)
 ·exact Nat.ne_of_lt (Nat.lt_of_lt_of_le (fpLt b hb) hC)
 ·rcases old e with q | q
  ·exact Nat.ne_of_gt (Nat.lt_of_lt_of_le (fpLt b hb) (Nat.le_trans hC (Nat.le_of_lt (ownGt q).1)))
  ·exact(hfp b hb).2.2.2.2.1 x c q
 ·have e1:=I.bs b o e
  obtain⟨f0,f1,f2,f3,f4,f5⟩:=hfp b hb
  rcases f3 with z | z
  ·exact I.ok.noex b o e z
  ·exact absurd (Nat.lt_of_lt_of_le (Heap.lt_size (I.ok.bs b o e).1) z) (Nat.lt_irrefl _)
 ·obtain⟨f0,f1,f2,f3,f4,f5⟩:=hfp b hb
  rcases List.mem_cons.mp (fsOk b hf)with z | z
  ·exact f1 z
  ·exact f2 z
 ·-- a captured name's value
  have hi:own.length<=i:=by
   rcases Nat.lt_or_ge i own.length with z | z
   ·exfalso
    have e2':(List.replicate own.length (none:Option V)++capt σ js)[i]? = some (some v):=e2
    rw[List.getElem?_append_left (by simpa using z),List.getElem?_replicate]at e2'
    split at e2' <;> cases e2'
   ·exact z
  have e1':(own++capN X.N js)[i]? = some x:=e1
  have e2':(List.replicate own.length (none:Option V)++capt σ js)[i]? = some (some v):=e2
  rw[List.getElem?_append_right hi]at e1'
  rw[List.getElem?_append_right (by simpa using hi),List.length_replicate]at e2'
  unfold capN at e1'
  unfold capt at e2'
  rw[List.getElem?_map]at e1' e2'
  cases ej:js[i - own.length]? with
  | none=>rw[ej]at e1';cases e1'
  | some j =>
   rw[ej]at e1' e2'
   have e1'':(X.N[j]?).getD "" = x:=Option.some.inj e1'
   have e2'':(σ[j]?).getD none=some v:=Option.some.inj e2'
   obtain⟨hj,hm⟩:=B.cap j (List.mem_of_getElem? ej)
   have eN:X.N[j]? = some x:=by
    rw[List.getElem?_eq_getElem hj]at e1'' ⊢
    exact congrArg some e1''
   have eS:σ[j]? = some (some v):=by
    cases q:σ[j]? with
    | none=>rw[q]at e2'';cases e2''
    | some u=>rw[q]at e2'';exact congrArg some e2''
   rw[e1'']at hm
   obtain⟨m,_,hl⟩:=I.loc
   have hv:Vis X.env.scope x:=by
    rcases B.free (x,.free) hm rfl with z | z
    ·exact .inr (.inl z)
    ·exact .inr (.inr z)
   obtain⟨u,r,l⟩:=hl j x v eN eS hv
   obtain⟨c,hc⟩:=has x hm
   refine⟨u,r,.inr ⟨?_,c,k0o (notC x hm) hm hc,?_⟩⟩
   ·rcases e3 with z | z | z
    ·exfalso
     have z':(relabel scope X.env).names.lookup x=some .local:=z
     rcases b0l z' with q | ⟨q,_⟩
     ·rw[B.uniq x hm]at q
      cases q
     ·cases q
    ·exact .inl z
    ·exact .inr z
   ·rcases l with⟨k1,_⟩ | ⟨k2,c2,e2,ic⟩
    ·rcases B.free (x,.free) hm rfl with t | t <;> (rw[k1]at t;cases t)
    ·rw[hc]at e2;cases e2
     obtain⟨o,ho,hd⟩:=ic
     exact⟨o,hk c o ho,hd⟩
 ·rcases old e with q | q
  ·exact⟨none,(ownGt q).2⟩
  ·obtain⟨v,o,ho,hd⟩:=I.cell x c q
   exact⟨v,o,hk c o ho,hd⟩
 ·exact I.hok.fresh hC
 ·rcases old e with q | q
  ·exact I.hok.fresh (Nat.le_trans hC (Nat.le_of_lt (ownGt q).1))
  ·exact I.freeC x c q
 ·rw[g0b]
  show _=(own++capN X.N js).length
  unfold capN
  simp
theorem p0k {elt tg iter:Expr}{ifs:List Expr}{scope:Scope}{pos:Pos}{own:List Str}{js:List Nat}{g:TG}{tc:TT}{te:TE}{Q:VK}{pins:List (Addr×Obj)}{σ:St}{s2:Shared}{itv:Value}{E:Value->Shared->Prop}
  {RR:Value->Addr->Result->Shared->Prop} (hc:X.calm=true) (B:BlkC X scope own js) (hg:∀s H C fp,(own++capN X.N js).Nodup->PG (blkC X scope (own++capN X.N js) s H C fp) tg g) (ht:∀s H C fp,PTs (blkC X scope (own++capN X.N js) s H C fp) ifs tc)
  (he:∀s H C fp,PE (blkC X scope (own++capN X.N js) s H C fp) elt te)
  (h:PIE X pins σ tg (fun J H1=>a1j J own.length js g tc te Q σ H1) itv s2)
  (hR:∀C acc s',v0k X pins σ Q C acc s'->RR acc C (.ok .next) s') :
  wpAny (model X.prog X.w) X.A (newList []) (fun acc s3=>wpAny (model X.prog X.w) X.A (newFunctionEnv scope X.env.globals (d0c scope X.env) [] X.env.qual none .none (some X.env)) (fun cenv s4 =>
   codeAny (model X.prog X.w) X.A (.compStart (.ListComp elt [⟨tg,iter,ifs,0⟩] scope pos) 0 itv acc {cenv with scope:=relabel scope X.env}) (RR acc cenv.locals) s4) E s3) E s2:=by
 obtain⟨it,fp,tn,J,H2,rfl,I2,T,st2,f2,W,⟨m0,w0⟩,turn⟩:=h
 refine wpAny_newObj_type (h0z ?_)
 generalize hPu:s2.heap.push {cls:=.type "list",dict:=none,data:=.seq ([]:List Value).toArray}=Pu
 dsimp only
 have hDC:Pu.objs.size=s2.heap.objs.size+1:=by rw[<- hPu,Heap.size_push]
 generalize hD:s2.heap.objs.size=D at hDC ⊢
 have gD:Pu.get? D=some {cls:=.type "list",dict:=none,data:=.seq ([]:List Value).toArray}:=by
  rw[<- hPu,<- hD];exact Heap.get?_push_size _ rfl
 have hns1:(pushCells (Pu.push {cls:=.type "dict",data:=.dict #[]}) scope.names).Ns Pu.objs.size fun _=>none:=(Heap.Ns.new Pu (.type "dict")).keeps (pushCells_keeps _ _)
 have hcs1:CellsOk (pushCells (Pu.push {cls:=.type "dict",data:=.dict #[]}) scope.names) (Pu.objs.size+1) (cellsFrom (Pu.objs.size+1) scope.names []):=by
  have ok:=cellsFrom_ok scope.names (Pu.push {cls:=.type "dict",data:=.dict #[]}) (Pu.objs.size+1) [] ⟨fun _ _ hm=>(nomatch hm),List.Pairwise.nil⟩ (by rw[Heap.size_push];exact Nat.le_refl _)
  rw[Heap.size_push]at ok
  exact ok
 have keep0:∀b o,Pu.get? b=some o->(pushCells (Pu.push {cls:=.type "dict",data:=.dict #[]}) scope.names).get? b=some o:=fun b o e=>pushCells_keeps _ _ b o (Heap.get?_push_of_some _ e)
 generalize hh1:pushCells (Pu.push {cls:=.type "dict",data:=.dict #[]}) scope.names=h1 at hns1 hcs1 keep0 ⊢
 generalize hC:Pu.objs.size=C at hns1 hcs1 hDC ⊢
 have ltDC:D<C:=by rw[hDC];exact Nat.lt_succ_self D
 have neDC:D≠C:=Nat.ne_of_lt ltDC
 have keep1:∀b o,s2.heap.get? b=some o->h1.get? b=some o:=fun b o e=>keep0 b o (by
  rw[<- hPu]
  exact Heap.get?_push_of_some _ e)
 have gD1:h1.get? D=some {cls:=.type "list",dict:=none,data:=.seq ([]:List Value).toArray}:=keep0 D _ gD
 have szD:s2.heap.objs.size<=D:=Nat.le_of_eq hD
 have szC:s2.heap.objs.size<=C:=Nat.le_trans szD (Nat.le_of_lt ltDC)
 have old:∀ {b:Addr},b<s2.heap.objs.size->b≠D/\b≠C:=fun hb=>⟨Nat.ne_of_lt (Nat.lt_of_lt_of_le hb szD),Nat.ne_of_lt (Nat.lt_of_lt_of_le hb szC)⟩
 have fpo:∀b∈fp,∃o,s2.heap.get? b=some o:=fun b hb=>let ⟨o,e,_⟩:=T.obj 0 _ st2 b hb;⟨o,e⟩
 have fpD:∀b∈fp,b≠D/\b≠C:=fun b hb=>by
  obtain⟨o,e⟩:=fpo b hb
  exact old (Heap.lt_size e)
 have clD:∀x d,X.env.cells.lookup x=some d->d≠D/\d≠C:=fun x d e=>by
  obtain⟨v,o,ho,_⟩:=I2.cell x d e
  exact old (Heap.lt_size ho)
 have pinD:∀p∈X.pn++pins,p.1≠D/\p.1≠C:=fun p hp=>by
  exact old (Heap.lt_size (I2.pin p hp).1)
 have locD:D≠X.env.locals/\C≠X.env.locals:=by
  exact⟨(old I2.lt).1.symm,(old I2.lt).2.symm⟩
 let Y:=blkC X scope (own++capN X.N js) s2 H2 C fp
 have IB:Inv Y [] (bst own.length σ js) H2 {s2 with heap:=h1}:=w0s B I2 f2 fpo szC hns1 hcs1 keep1
 have fpB:∀ {H':Hp} {pl:List (Addr×Obj)},(∀b∈fp,H' b=none)->(∀p∈pl,p.1=D)->∀b∈fp,FpOk Y pl H' b:=fun{H' pl} hn hp b hb=>by
  obtain⟨f0,f1,f3,f4,f5,f6⟩:=f2 b hb
  refine⟨hn b hb,(fpD b hb).2,fun z=>?_,.inl hb,fun x c e=>?_,fun p q=>?_⟩
  ·rcases List.mem_cons.mp (I2.stkSub b z)with z | z
   ·exact f1 z
   ·exact f3 z
  ·rcases f0e e with q | q
   ·obtain⟨o,eo⟩:=fpo b hb
    exact Nat.ne_of_gt (Nat.lt_of_lt_of_le (Heap.lt_size eo) (Nat.le_trans szC (Nat.le_of_lt (hcs1.empty _ _ q).2)))
   ·exact f5 x c q
  ·have q':p∈pl:=by simpa [Y,blkC] using q
   rw[hp p q']
   exact(fpD b hb).1.symm
 have clB:∀x d,Y.env.cells.lookup x=some d->d≠D:=fun x d e=>by
  rcases f0e e with q | q
  ·exact Nat.ne_of_gt (Nat.lt_trans ltDC (hcs1.empty _ _ q).2)
  ·exact(clD x d q).1
 have notFs:D∉Y.fs:=fun z=>by
  obtain⟨_,o,ho,_⟩:=IB.ok.funs.mem z
  exact(old (Heap.lt_size (show s2.heap.get? D=some o from ho))).1 rfl
 have loop:∀s3:Shared,s3={s2 with heap:=h1} ->
   codeAny (model X.prog X.w) X.A (.compLoop (.ListComp elt [⟨tg,iter,ifs,0⟩] scope pos) 0 (.ref it) (.ref D) (compEnvC scope (f0s scope C X.env) C X.env)) (RR (.ref D) C) s3:=by
  rintro s3 rfl
  refine j0b (fun n s'=>∃(i:Nat) (ys:List V) (its:List Value) (k:Nat) (H':Hp),Inv Y [] (bst own.length σ js) H' s'/\tn i s'.heap/\(∀b∈fp,H' b=none)/\H' D=none/\Vals ys its /\
   s'.heap.get? D=some {cls:=.type "list",data:=.seq its.toArray k}/\W i n ys H') ?_ m0 ⟨0,[],[],0,H2,IB,T.keep 0 _ _ st2 (fun b hb o e=>keep1 b o e),fun b hb=>(f2 b hb).1,I2.hok.fresh szD,.nil,gD1,w0⟩
  rintro n s3 ⟨i,ys,its,k,H3,I3,st3,fr3,hD3,r3,g3,w3⟩
  have I3p:Inv Y [(D,{cls:=.type "list",data:=.seq its.toArray k})] (bst own.length σ js) H3 s3:=I3.pins_of fun p hp=>by
   have e:p=(D,{cls:=.type "list",data:=.seq its.toArray k}):=by simpa using hp
   subst e
   exact⟨g3,hD3,neDC,notFs,fun v z=>by cases z⟩
  have f3:∀b∈fp,FpOk Y [(D,{cls:=.type "list",data:=.seq its.toArray k})] H3 b:=fpB fr3 fun p hp=>by
   have e:p=(D,{cls:=.type "list",data:=.seq its.toArray k}):=by simpa using hp
   rw[e]
  rcases turn i n ys H3 w3 with⟨stop,hz,qn⟩ | ⟨go,hz,N,hN,step⟩
  ·refine thn (T.done Y rfl rfl rfl hc i _ s3 _ H3 (fun _ _=>False) I3p f3 st3 stop) fun r s4 ⟨hr,I4⟩=>?_
   subst hr
   refine hR C _ s4 ?_
   have g4:=(I4.pin (D,{cls:=.type "list",data:=.seq its.toArray k}) (by simp[Y,blkC])).1
   obtain⟨m,hn4,_⟩:=id I4.loc
   have un:Un (frs X.stack) fp H2 H3 s2.heap s4.heap:=I4.base
   have I5:Inv X pins σ H3 s4:=I2.call' I4.os un I4.hok I4.bare fun b hb=>let ⟨_,b1,_,b3,b4,b5⟩:=f2 b hb;⟨b3,b1,b4,b5⟩
   have I6:=I5.track (ys:=ys) (its:=its) (n:=k) hD3 (Nat.le_trans I2.sz szD) locD.1 (fun x d e=>(clD x d e).1) (fun p hp=>(pinD p hp).1) hz r3 g4
   refine⟨D,_,m,rfl,hn4,I6,?_,Nat.le_trans I2.sz szC,locD.2,fun x d e=>(clD x d e).2,fun p hp=>(pinD p hp).2,qn D hD3⟩
   rw[a0o (Ne.symm neDC)]
   exact I4.free
  ·refine thn (T.item Y rfl rfl rfl hc i _ s3 _ H3 (fun _ _=>False) I3p f3 st3 go) fun r s4 ⟨u,hr,h4⟩=>?_
   subst hr
   refine thn h4 fun _ s5 ⟨x,H5,I5,r5,y5,st5,fr5⟩=>?_
   have f5:∀b∈fp,FpOk Y [(D,{cls:=.type "list",data:=.seq its.toArray k})] H5 b:=fun b hb=>⟨fr5 b hb,(f3 b hb).2⟩
   have I5':=I5.pinned f5 (T.obj _ _ st5)
   refine thn (hg s2 H2 C fp B.nd _ s5 _ H5 x u _ I5' r5 (step x H5 y5)) fun _ s6 ⟨σ6,H6,I6,d6,q6⟩=>?_
   refine thn (ht s2 H2 C fp _ s6 σ6 H6 _ I6 q6) fun ok s7 ⟨H7,I7,q7⟩=>?_
   have after:∀ {s8:Shared} {H8:Hp},Inv Y ([(D,{cls:=.type "list",data:=.seq its.toArray k})]++e0z fp s5.heap) σ6 H8 s8 ->
     s8.heap.get? D=some {cls:=.type "list",data:=.seq its.toArray k}/\H8 D=none/\tn (i+1) s8.heap/\(∀b∈fp,H8 b=none)/\Inv Y [] (bst own.length σ js) H8 s8:=fun{s8 H8} I8=>by
    have p8:=I8.pin (D,{cls:=.type "list",data:=.seq its.toArray k}) (by simp[Y,blkC])
    refine⟨p8.1,p8.2.1,T.keep _ _ _ st5 fun b hb o e=>(I8.pin (b,o) (List.mem_append_right _ (List.mem_append_right _ (b0s hb e)))).1,fun b hb=>?_,?_⟩
    ·obtain⟨o,e,_⟩:=T.obj _ _ st5 b hb
     exact(I8.pin (b,o) (List.mem_append_right _ (List.mem_append_right _ (b0s hb e)))).2.1
    ·refine(I8.pins_of (pins':=[]) fun p hp=>absurd hp (by simp[Y,blkC])).weak ?_ fun j v e=>?_
     ·rw[I8.len,g0b]
      show _=(own++capN X.N js).length
      unfold capN
      simp
     ·rcases Nat.lt_or_ge j own.length with z | z
      ·exfalso
       unfold bst at e
       rw[List.getElem?_append_left (by simpa using z),List.getElem?_replicate]at e
       split at e <;> cases e
      ·unfold bst at e
       rw[List.getElem?_append_right (by simpa using z),List.length_replicate,<- d6,List.getElem?_drop]at e
       rw[<- e]
       congr 1
       omega
   cases ok with
   | false =>
    rw[if_neg Bool.false_ne_true]at q7 ⊢
    obtain⟨m',hm,w7⟩:=hN _ _ q7
    obtain⟨a1,a2,a3,a4,a5⟩:=after I7
    exact⟨m',hm,i+1,ys,its,k,H7,a5,a3,a4,a2,r3,a1,w7⟩
   | true =>
    rw[if_pos rfl]at q7 ⊢
    refine thn (he s2 H2 C fp _ s7 σ6 H7 _ I7 q7) fun u8 s8 ⟨v8,H8,I8,r8,n8⟩=>?_
    obtain⟨m',hm,w8⟩:=hN _ _ n8
    obtain⟨a1,a2,a3,a4,a5⟩:=after I8
    have hsz:its.toArray.size<sizeLine:=by rw[List.size_toArray,<- r3.length];exact hz
    refine call_meets F.slot_list_append ⟨_,a1,rfl⟩ F.entry_list_append (F.args_list_append_2 _ _) (PySem.list_append D its.toArray k u8 (by omega)) ⟨a1,?_⟩
    have q9:=PySem.IsL.update a1 (fun xs=>xs.push u8)
    have sb:Heap.SameBut D s8.heap (s8.heap.update D (Obj.mapSeq fun xs=>xs.push u8)):=Heap.SameBut.update ..
    have I9:=a5.young sb a2 szD neDC clB (fun p hp=>absurd hp (by show p∉[]++[];simp))
    have fin:∃k',(s8.heap.update D (Obj.mapSeq fun xs=>xs.push u8)).get? D=some {cls:=.type "list",data:=.seq (its++[u8]).toArray k'}:=⟨_,by
     rw[show(its++[u8]).toArray=its.toArray.push u8 by simp]
     exact q9⟩
    obtain⟨k',fin⟩:=fin
    exact⟨m',hm,i+1,ys++[v8],its++[u8],k',H8,I9,T.keep _ _ _ a3 (fun b hb o e=>(sb.2 b (fpD b hb).1).trans e),a4,a2,r3.append (.cons r8 .nil),fin,w8⟩
 exact codeAny_compStart_list (loop _ rfl) (T.self _ 0 _ _ _ (T.keep 0 _ _ st2 fun b hb o e=>keep1 b o e) (loop _ rfl))
theorem w0c {elt tg iter:Expr}{ifs:List Expr}{scope:Scope}{pos:Pos}(own:List Str)(js:List Nat){wi:TI}{g:TG}{tc:TT}{te:TE}(hc:X.calm=true)(B:BlkC X scope own js)(hi:PI X tg iter wi)
  (hg:∀s H C fp,(own++capN X.N js).Nodup->PG (blkC X scope (own++capN X.N js) s H C fp) tg g) (ht:∀s H C fp,PTs (blkC X scope (own++capN X.N js) s H C fp) ifs tc) (he:∀s H C fp,PE (blkC X scope (own++capN X.N js) s H C fp) elt te)
  (hs:∀x,foldedSetIterable iter X.env x=pure x:=by intro _;rfl):PE X (.ListComp elt [⟨tg,iter,ifs,0⟩] scope pos) (r0g own.length js wi g tc te):=by
 intro pins s σ H Q I h
 have hcl:closureFor scope X.env=pure (d0c scope X.env):=d0i fun x hx hf=>I.ok.has x.1 (B.free x hx hf)
 rw[eval_ListComp]
 refine wpAny_comprehension_free (use:=none) rfl hs hcl B.kind B.names (thn (hi pins s σ H _ I h) fun v s1 h1=>thn h1 fun itv s2 h2=>?_)
 refine p0k (RR:=fun acc C=>compPost (model X.prog X.w) X.A X.xe none (EP X pins σ Q) acc C) hc B hg ht he h2 fun C acc s' hb=>?_
 obtain⟨D,H',m,rfl,hn,I',c1,c2,c3,c4,c5,q⟩:=hb
 exact⟨m,hn,fun h' hs'=>⟨.ref D,H',I'.young hs' c1 c2 c3 c4 c5,rfl,q⟩⟩
theorem Blk.inC {X0:Cx}{scope0:Scope}{N0:List Str}{s:Shared}{H:Hp}{C:Addr}{fp:List Addr}{scope:Scope}{own:List Str}{js:List Nat}(sc:Scope)(N:List Str)(h:blkB (relS scope0 sc) N scope own js=true:=by decide +kernel)(e1:X0.env.scope=sc:=by rfl)(e2:N0=N:=by rfl):Blk (blkC X0 scope0 N0 s H C fp) scope own js :=
 Blk.of (X:=blkC X0 scope0 N0 s H C fp) (relS scope0 sc) N h (by subst e1;rfl) e2
end
section
variable {X:Cx}(K:PySem.W.Frag)
def t0b (K:PySem.W.Frag):List V->Hp->VK->Prop:=fun xs H Q=>∃(p:Addr) (ns:List Int),xs=[.ref p]/\SqL K H p (ns.map V.int)/\ns.length<64/\∀ns':List Int,ns'.Perm ns->ns'.Pairwise (· <= ·)->∀l,H l=none->Q (.ref l) (upd H l (.lst (ns'.map V.int)))
theorem j0f (hK:X.K=K:=by rfl):h0g X (.builtin "sorted") (t0b K):=by
 subst hK
 intro pins s σ H xs us Q I r h
 obtain⟨a,ns,rfl,hq,h64,q1⟩:=h
 obtain⟨u1,rfl,ru⟩:=m0h r
 cases ru
 obtain⟨its,rv,pl,hz⟩:=I.list hq
 have hl:its.length=ns.length:=by have:=rv.length;rw[List.length_map]at this;omega
 refine sorted_ints pl.isList (k0f rv) (by omega) fun out ns' a1 a2 a3=>?_
 obtain⟨e,he⟩:=sortedAll_at s.heap its out
 have hlen:=a2.length_eq
 refine⟨.ref (s.heap.objs.size+1),_,I.laid (t':=s.toks) (o:=.lst (ns'.map V.int)) (fun b o q=>sortedAll_old q) (Nat.le_succ _) ⟨?_,out.toList,e,i0b a1,?_⟩,rfl,q1 ns' a2 a3 _ (I.hok.fresh (Nat.le_succ _))⟩
 ·rw[List.length_map];exact Nat.le_of_lt (e0y (n:=ns'.length) (by omega))
 ·rw[he]
end
section
variable {K:PySem.W.Frag}
@[irreducible] def gSorted:List R->AE:=fun rs ρ q=>match rs with
 | [r]=>(match view ρ r with
  | some (.lst ds)=>(match d0u ds with | some ns=>ns.length<64/\(∀ns':List Int,ns'.Perm ns->ns'.Pairwise (· <= ·)->q (.f (ns'.map D.int)) ρ) | none=>False)
  | _=>False)
 | _=>False
theorem j0e:CbOk K (t0b K) gSorted:=by
 intro F σ ρ H vs rs q Q a i h b
 unfold gSorted at h
 split at h
 ·obtain⟨y,rfl,iy⟩:=i.one
  split at h
  ·rename_i ds e
   split at h
   ·rename_i ns e'
    obtain⟨l,us,rfl,sq,rd⟩:=c0d a iy e
    rw[g0n e',g0w]at rd
    rw[rd]at sq
    exact⟨l,ns,rfl,sq,h.1,fun ns' h1 h2 p hp=>b.new a (h.2 ns' h1 h2) (g0w.mpr rfl) hp⟩
   ·exact h.elim
  ·exact h.elim
 ·exact h.elim
theorem h0b {r:R}{ρ:En}{q:Ko}{ns:List Int}(hv:view ρ r=some (.lst (ns.map D.int)))(h64:ns.length<64)(h1:∀ns':List Int,ns'.Perm ns->ns'.Pairwise (· <= ·)->q (.f (ns'.map D.int)) ρ):gSorted [r] ρ q:=by
 unfold gSorted
 simp only[hv,g0z]
 exact⟨h64,h1⟩
end
abbrev SM:=StateT SortSt Sem
def gal:Bool->Keyed->Array Keyed->Nat->Nat->Nat->SM (Option Nat):=sortPriv% PySem.Builtin.gallop
def bey (lf:Bool)(k:Keyed)(xs:Array Keyed)(b i:Nat):SM (Option Bool):=do
 let x <- elem' xs (b+i)
 if lf then lt' x k
 else return (<- lt' k x).map (!·)
theorem c1y (lf:Bool)(k:Keyed)(xs:Array Keyed)(b n h:Nat):gal lf k xs b n h=(do
  let mut p:=0
  let mut q:=1
  let mut u:=0
  let mut v:=0
  let some rt <- bey lf k xs b h | return none
  if rt then
   let m:=n - h
   for _ in [0:n] do
    if q>=m then break
    let some c <- bey lf k xs b (h+q) | return none
    if !c then break
    p:=q
    q:=2*q+1
   u:=h+p+1
   v:=h+min q m
  else
   let m:=h+1
   for _ in [0:n] do
    if q>=m then break
    let some c <- bey lf k xs b (h - q) | return none
    if c then break
    p:=q
    q:=2*q+1
   u:=h+1 - min q m
   v:=h - p
  for _ in [0:n] do
   if u>=v then break
   let w:=u+(v - u) / 2
   let some c <- bey lf k xs b w | return none
   if c then u:=w+1 else v:=w
  return some v):=rfl
section
variable {M:Model}{A:Around}{E:Value->Shared->Prop}{s:Shared}{κ:SortKind}{r:Keyed->Int}{P:Keyed->Prop}
structure Cm (M:Model)(A:Around)(E:Value->Shared->Prop)(s:Shared)(κ:SortKind)(r:Keyed->Int)(P:Keyed->Prop):Prop where
 lt:∀x y,P x->P y->∀(st:SortSt) (Q:Option Bool->SortSt->Prop),kindOf st=κ->Q (some (decide (r x<r y))) st->wpS M A E s (lt' x y) Q st
theorem b0e {xs:Array Keyed}{i:Nat}{x:Keyed}{st:SortSt}{Q:Keyed->SortSt->Prop}(hx:xs[i]? = some x)(h:Q x st):wpS M A E s (elem' xs i) Q st:=by
 rw[elem'_eq,hx];exact wpS_pure h
def bT (lf:Bool)(k v:Int):Bool:=if lf then decide (v<k)else !decide (k<v)
theorem a1w (C:Cm M A E s κ r P){lf:Bool}{k x:Keyed}{xs:Array Keyed}{b i:Nat}{st:SortSt}{Q:Option Bool->SortSt->Prop}(hk:kindOf st=κ)(pk:P k)(hx:xs[b+i]? = some x)(px:P x)(h:Q (some (bT lf (r k) (r x))) st):wpS M A E s (bey lf k xs b i) Q st:=by
 unfold bey
 refine wpS_bind (b0e hx ?_)
 cases lf with
 | true=>exact C.lt _ _ px pk _ _ hk h
 | false=>exact wpS_bind (C.lt _ _ pk px _ _ hk (wpS_pure h))
theorem y0d {lf:Bool}{k:Keyed}{xs:Array Keyed}{b n hint:Nat}{st:SortSt}{Q:Option Nat->SortSt->Prop}(T:Nat->Bool)
  (hB:∀i,i<n->∀Q':Option Bool->SortSt->Prop,Q' (some (T i)) st->wpS M A E s (bey lf k xs b i) Q' st)
  (mono:∀i j,i<=j->j<n->T j=true->T i=true) (hh:hint<n)
  (h:∀m,m<=n->(∀i,i<m->T i=true)->(∀i,m<=i->i<n->T i=false)->Q (some m) st):wpS M A E s (gal lf k xs b n hint) Q st:=by
 have mono':∀i j,i<=j->j<n->T i=false->T j=false:=fun i j a c e=>by
  cases q:T j with
  | false=>rfl
  | true=>rw[mono i j a c q]at e;cases e
 have last:∀(u v:Nat),u<=v->v<=n->(∀i,i<u->T i=true)->(∀i,v<=i->i<n->T i=false) ->
   ∀f:(Option (Option Nat)×Nat×Nat)->SM (Option Nat),(∀m,f (none,m,m)=pure (some m)) ->
   wpS M A E s (forIn [0:n] ((none:Option (Option Nat)),u,v) (fun _ c=>if c.2.1>=c.2.2 then pure (ForInStep.done (none,c.2.1,c.2.2))else do
    let some z <- bey lf k xs b (c.2.1+(c.2.2 - c.2.1) / 2) | pure (ForInStep.done (some none,c.2.1,c.2.2))
    if z then pure (ForInStep.yield (none,c.2.1+(c.2.2 - c.2.1) / 2+1,c.2.2))else pure (ForInStep.yield (none,c.2.1,c.2.1+(c.2.2 - c.2.1) / 2)))>>=f) Q st:=by
  intro u v huv hv h1 h2 f hf
  refine wpS_bind (wpS_mono (wpS_forRange (I:=fun x c st'=>st'=st/\∃u v,c=(none,u,v)/\u<=v/\v<=n/\v - u<=n - x/\(∀i,i<u->T i=true)/\(∀i,v<=i->i<n->T i=false))
   (Q:=fun c st'=>st'=st/\∃m,c=(none,m,m)/\m<=n/\(∀i,i<m->T i=true)/\(∀i,m<=i->i<n->T i=false)) ?_ ?_ ⟨rfl,u,v,rfl,huv,hv,by omega,h1,h2⟩) ?_)
  ·rintro x c st' _ hx ⟨rfl,u,v,rfl,a1,a2,a3,a4,a5⟩
   dsimp only
   by_cases g:u>=v
   ·rw[if_pos g]
    have:u=v:=by omega
    subst this
    exact wpS_pure ⟨rfl,u,rfl,a2,a4,a5⟩
   ·rw[if_neg g]
    refine wpS_bind (hB _ (by omega) _ ?_)
    dsimp only
    cases z:T (u+(v - u) / 2)with
    | true =>
     rw[if_pos rfl]
     exact wpS_pure ⟨rfl,_,_,rfl,by omega,by omega,by omega,fun i hi=>mono i _ (by omega) (by omega) z,a5⟩
    | false =>
     rw[if_neg (by simp)]
     exact wpS_pure ⟨rfl,_,_,rfl,by omega,by omega,by omega,a4,fun i hi hn=>mono' _ i hi hn z⟩
  ·rintro c st' ⟨rfl,u,v,rfl,a1,a2,a3,a4,a5⟩
   have:u=v:=by omega
   subst this
   exact⟨rfl,u,rfl,a2,a4,a5⟩
  ·rintro c st' ⟨rfl,m,rfl,a2,a4,a5⟩
   rw[hf]
   exact wpS_pure (h m a2 a4 a5)
 rw[c1y]
 dsimp only
 refine wpS_bind (hB _ hh _ ?_)
 dsimp only
 cases z:T hint with
 | true =>
  rw[if_pos rfl]
  refine wpS_bind (wpS_mono (wpS_forRange (I:=fun x c st'=>st'=st/\∃p q,c=(none,p,q)/\p<q/\p+hint<n/\x+1<=q/\T (hint+p)=true)
   (Q:=fun c st'=>st'=st/\∃p q,c=(none,p,q)/\p<q/\p+hint<n/\T (hint+p)=true/\(n - hint<=q∨T (hint+q)=false)) ?_ ?_ ⟨rfl,0,1,rfl,by omega,by omega,by omega,z⟩) ?_)
  ·rintro x c st' _ hx ⟨rfl,p,q,rfl,a1,a2,a3,a4⟩
   dsimp only
   by_cases g:q>=n - hint
   ·rw[if_pos g];exact wpS_pure ⟨rfl,p,q,rfl,a1,a2,a4,.inl g⟩
   ·rw[if_neg g]
    refine wpS_bind (hB _ (by omega) _ ?_)
    dsimp only
    cases y:T (hint+q)with
    | true=>rw[if_neg (by simp)];exact wpS_pure ⟨rfl,q,2*q+1,rfl,by omega,by omega,by omega,y⟩
    | false=>rw[if_pos (by simp)];exact wpS_pure ⟨rfl,p,q,rfl,a1,a2,a4,.inr y⟩
  ·rintro c st' ⟨rfl,p,q,rfl,a1,a2,a3,a4⟩
   exact⟨rfl,p,q,rfl,a1,a2,a4,.inl (by omega)⟩
  ·rintro c st' ⟨rfl,p,q,rfl,a1,a2,a4,a5⟩
   dsimp only
   refine last _ _ (by omega) (by omega) (fun i hi=>mono i _ (by omega) (by omega) a4) (fun i hi hn=>?_) _ fun m=>rfl
   rcases a5 with a5 | a5
   ·omega
   ·by_cases g:n - hint<=q
    ·omega
    ·exact mono' _ i (by omega) hn a5
 | false =>
  rw[if_neg (by simp)]
  refine wpS_bind (wpS_mono (wpS_forRange (I:=fun x c st'=>st'=st/\∃p q,c=(none,p,q)/\p<q/\p<=hint/\x+1<=q/\T (hint - p)=false)
   (Q:=fun c st'=>st'=st/\∃p q,c=(none,p,q)/\p<q/\p<=hint/\T (hint - p)=false/\(hint+1<=q∨(q<=hint/\T (hint - q)=true))) ?_ ?_ ⟨rfl,0,1,rfl,by omega,by omega,by omega,z⟩) ?_)
  ·rintro x c st' _ hx ⟨rfl,p,q,rfl,a1,a2,a3,a4⟩
   dsimp only
   by_cases g:q>=hint+1
   ·rw[if_pos g];exact wpS_pure ⟨rfl,p,q,rfl,a1,a2,a4,.inl g⟩
   ·rw[if_neg g]
    refine wpS_bind (hB _ (by omega) _ ?_)
    dsimp only
    cases y:T (hint - q)with
    | true=>rw[if_pos rfl];exact wpS_pure ⟨rfl,p,q,rfl,a1,a2,a4,.inr ⟨by omega,y⟩⟩
    | false=>rw[if_neg (by simp)];exact wpS_pure ⟨rfl,q,2*q+1,rfl,by omega,by omega,by omega,y⟩
  ·rintro c st' ⟨rfl,p,q,rfl,a1,a2,a3,a4⟩
   exact⟨rfl,p,q,rfl,a1,a2,a4,.inl (by omega)⟩
  ·rintro c st' ⟨rfl,p,q,rfl,a1,a2,a4,a5⟩
   dsimp only
   refine last _ _ (by omega) (by omega) (fun i hi=>?_) (fun i hi hn=>mono' _ i (by omega) hn a4) _ fun m=>rfl
   rcases a5 with a5 | ⟨a6,a5⟩
   ·omega
   ·exact mono i (hint - q) (by omega) (by omega) a5
end
def mLo:Array Keyed->Array Keyed->SM (Array Keyed):=sortPriv% PySem.Builtin.mergeLo
def setG:Nat->SM Unit:=sortPriv% PySem.Builtin.setMinGallop
abbrev stG (st:SortSt)(g:Nat):SortSt:=SortSt.mk' (kindOf st) (arrOf st) (pendingOf st) g (failedOf st)
def dn (a b o:Array Keyed)(i j:Nat):Array Keyed:=o++a.extract i a.size++b.extract j b.size
def dl (a b o:Array Keyed)(i j:Nat):Array Keyed:=o++b.extract j b.size++a.extract i a.size
theorem l0a (g:Nat):setG g=modify fun st=>stG st g:=rfl
def Srt (r:Keyed->Int)(l:List Keyed):Prop:=l.Pairwise fun x y=>r x<=r y
structure Mg (r:Keyed->Int)(all out A B:List Keyed):Prop where
 pm:(out++A++B).Perm all
 so:Srt r out
 sa:Srt r A
 sb:Srt r B
 oa:∀x∈out,∀y∈A,r x<=r y
 ob:∀x∈out,∀y∈B,r x<=r y
section
variable {r:Keyed->Int}{all out A B X:List Keyed}
theorem Mg.takeA (m:Mg r all out (X++A) B)(h:∀x∈X,∀y∈B,r x<=r y):Mg r all (out++X) A B:=by
 have s:=List.pairwise_append.mp m.sa
 refine⟨by have:=m.pm;simpa [List.append_assoc] using this,List.pairwise_append.mpr ⟨m.so,s.1,fun x hx y hy=>m.oa x hx y (List.mem_append_left _ hy)⟩,s.2.1,m.sb,fun x hx y hy=>?_,fun x hx y hy=>?_⟩
 ·rcases List.mem_append.mp hx with q | q
  ·exact m.oa x q y (List.mem_append_right _ hy)
  ·exact s.2.2 x q y hy
 ·rcases List.mem_append.mp hx with q | q
  ·exact m.ob x q y hy
  ·exact h x q y hy
theorem Mg.takeB (m:Mg r all out A (X++B))(h:∀x∈X,∀y∈A,r x<=r y):Mg r all (out++X) A B:=by
 have s:=List.pairwise_append.mp m.sb
 refine⟨?_,List.pairwise_append.mpr ⟨m.so,s.1,fun x hx y hy=>m.ob x hx y (List.mem_append_left _ hy)⟩,m.sa,s.2.1,fun x hx y hy=>?_,fun x hx y hy=>?_⟩
 ·refine List.Perm.trans ?_ m.pm
  rw[List.append_assoc,List.append_assoc,List.append_assoc]
  refine List.Perm.append_left out ?_
  rw[<- List.append_assoc,<- List.append_assoc]
  exact List.Perm.append_right B List.perm_append_comm
 ·rcases List.mem_append.mp hx with q | q
  ·exact m.oa x q y hy
  ·exact h x q y hy
 ·rcases List.mem_append.mp hx with q | q
  ·exact m.ob x q y (List.mem_append_right _ hy)
  ·exact s.2.2 x q y hy
def Res (r:Keyed->Int)(all:List Keyed)(xs:Array Keyed):Prop:=xs.toList.Perm all/\Srt r xs.toList
end
theorem h0y (a:Array Keyed)(i:Nat):(a.extract i a.size).toList=a.toList.drop i:=by
 rw[Array.toList_extract,List.extract_eq_take_drop]
 exact List.take_of_length_le (by simp)
theorem u0q {a:Array Keyed}{i:Nat}(h:i<a.size):a.toList.drop i=a[i]::a.toList.drop (i+1):=by
 rw[List.drop_eq_getElem_cons (by simpa using h)];simp
theorem q0s {a:Array Keyed}{i:Nat}{x:Keyed}(h:x∈a.toList.drop i):∃k,i<=k/\∃(q:k<a.size),a[k]=x:=by
 obtain⟨n,hn,e⟩:=List.getElem_of_mem h
 rw[List.getElem_drop]at e
 rw[List.length_drop]at hn
 exact⟨i+n,by omega,by simp at hn;omega,by simpa using e⟩
theorem j0x {r:Keyed->Int}{a:Array Keyed}(h:Srt r a.toList){i j:Nat}(ij:i<=j)(hj:j<a.size):r (a[i]'(by omega))<=r a[j]:=by
 rcases Nat.lt_or_ge i j with q | q
 ·have:=List.pairwise_iff_getElem.mp h i j (by simp;omega) (by simpa using hj) q
  simpa using this
 ·have:i=j:=by omega
  subst this;exact Int.le_refl _
theorem n0o {a:Array Keyed}{i k:Nat}:a.toList.drop i=(a.extract i (i+k)).toList++a.toList.drop (i+k):=by
 rw[Array.toList_extract,List.extract_eq_take_drop,Nat.add_sub_cancel_left,<- List.drop_drop,List.take_append_drop]
theorem u0o {a:Array Keyed}{i k:Nat}{x:Keyed}(h:x∈(a.extract i (i+k)).toList):∃m,i<=m/\m<i+k/\∃(q:m<a.size),a[m]=x:=by
 rw[Array.toList_extract,List.extract_eq_take_drop,Nat.add_sub_cancel_left]at h
 obtain⟨n,hn,e⟩:=List.getElem_of_mem h
 rw[List.length_take,List.length_drop]at hn
 rw[List.getElem_take,List.getElem_drop]at e
 exact⟨i+n,by omega,by omega,by simp at hn;omega,by simpa using e⟩
section
variable {M:Model}{A:Around}{E:Value->Shared->Prop}{s:Shared}{κ:SortKind}{r:Keyed->Int}{P:Keyed->Prop}
theorem j0t (C:Cm M A E s κ r P){lf:Bool}{k:Keyed}{xs:Array Keyed}{b n hint:Nat}{st:SortSt}{Q:Option Nat->SortSt->Prop}(hk:kindOf st=κ)(pk:P k)(hP:∀x∈xs.toList,P x)(hn:b+n<=xs.size)
  (hs:∀i j (ij:i<=j) (hj:j<n),r (xs[b+i]'(by omega))<=r (xs[b+j]'(by omega))) (hh:hint<n)
  (h:∀m,m<=n->(∀i (q:i<m) (z:b+i<xs.size),bT lf (r k) (r xs[b+i])=true)->(∀i,m<=i->i<n->∀z:b+i<xs.size,bT lf (r k) (r xs[b+i])=false)->Q (some m) st):wpS M A E s (gal lf k xs b n hint) Q st:=by
 have ev:∀i,i<n->∃z:b+i<xs.size,(match xs[b+i]? with | some x=>bT lf (r k) (r x) | none=>false)=bT lf (r k) (r xs[b+i]):=fun i hi=>by
  have z:b+i<xs.size:=by omega
  exact⟨z,by rw[Array.getElem?_eq_getElem z]⟩
 refine y0d (fun i=>match xs[b+i]? with | some x=>bT lf (r k) (r x) | none=>false) (fun i hi Q' q=>?_) (fun i j ij hj q=>?_) hh fun m hm h1 h2=>h m hm (fun i hi z=>?_) fun i hi hn z=>?_
 ·obtain⟨z,e⟩:=ev i hi
  rw[e]at q
  exact a1w C hk pk (Array.getElem?_eq_getElem z) (hP _ (by simp)) q
 ·obtain⟨z,e⟩:=ev i (by omega)
  obtain⟨z',e'⟩:=ev j hj
  rw[e']at q;rw[e]
  have:=hs i j ij hj
  unfold bT at q ⊢
  cases lf <;> simp at q ⊢ <;> omega
 ·obtain⟨z',e⟩:=ev i (by omega)
  rw[<- e];exact h1 i hi
 ·obtain⟨z',e⟩:=ev i hn
  rw[<- e];exact h2 i hi hn
end
abbrev T7:=Option (Array Keyed)×Array Keyed×Nat×Nat×Nat×Nat×Nat
abbrev T6:=Option (Array Keyed)×Array Keyed×Nat×Nat×Nat×Nat
abbrev T5:=Option (Array Keyed)×Array Keyed×Nat×Nat×Nat
def loC (a b o:Array Keyed)(i j g c d:Nat):SM (ForInStep T7):=do
 let x <- elem' a i
 if i+1+1==a.size then pure (.done (some (dl a b (o.push x) (i+1) j),o.push x,i+1,j,g,c,d))
 else if c<7&&d<7 then pure (.done (none,o.push x,i+1,j,g,c,d))
 else pure (.yield (none,o.push x,i+1,j,g,c,d))
def loB (a b o:Array Keyed)(i j g c d:Nat):SM (ForInStep T7):=do
 let x <- elem' b j
 if j+1==b.size then pure (.done (some (dn a b (o.push x) i (j+1)),o.push x,i,j+1,g,c,d))
 else
  let y <- elem' a i
  let some k <- gal true y b (j+1) (b.size - (j+1)) 0 | pure (.done (some (dn a b (o.push x) i (j+1)),o.push x,i,j+1,g,c,d))
  if k > 0 then
   if j+1+k==b.size then pure (.done (some (dn a b (o.push x++b.extract (j+1) (j+1+k)) i (j+1+k)),o.push x++b.extract (j+1) (j+1+k),i,j+1+k,g,c,k))
   else loC a b (o.push x++b.extract (j+1) (j+1+k)) i (j+1+k) g c k
  else loC a b (o.push x) i (j+1) g c k
def loA (a b o:Array Keyed)(i j g c d:Nat):SM (ForInStep T7):=do
 setG g
 let y <- elem' b j
 let some k <- gal false y a i (a.size - i) 0 | pure (.done (some (dn a b o i j),o,i,j,g,c,d))
 if k > 0 then
  if i+k+1==a.size then pure (.done (some (dl a b (o++a.extract i (i+k)) (i+k) j),o++a.extract i (i+k),i+k,j,g,k,d))
  else if i+k==a.size then pure (.done (some (dn a b (o++a.extract i (i+k)) (i+k) j),o++a.extract i (i+k),i+k,j,g,k,d))
  else loB a b (o++a.extract i (i+k)) (i+k) j g k d
 else loB a b o i j g k d
def lo2 (a b:Array Keyed)(q:T7):SM (ForInStep T7) :=
 if q.2.2.2.2.1 > 1 then loA a b q.2.1 q.2.2.1 q.2.2.2.1 (q.2.2.2.2.1 - 1) q.2.2.2.2.2.1 q.2.2.2.2.2.2 else loA a b q.2.1 q.2.2.1 q.2.2.2.1 q.2.2.2.2.1 q.2.2.2.2.2.1 q.2.2.2.2.2.2
def lo1 (a b:Array Keyed)(g:Nat)(q:T6):SM (ForInStep T6):=do
 let o:=q.2.1
 let i:=q.2.2.1
 let j:=q.2.2.2.1
 let c:=q.2.2.2.2.1
 let d:=q.2.2.2.2.2
 let x <- elem' b j
 let y <- elem' a i
 let some z <- lt' x y | pure (.done (some (dn a b o i j),o,i,j,c,d))
 if z then
  let x <- elem' b j
  if j+1==b.size then pure (.done (some (dn a b (o.push x) i (j+1)),o.push x,i,j+1,0,d+1))
  else if d+1>=g then pure (.done (none,o.push x,i,j+1,0,d+1))
  else pure (.yield (none,o.push x,i,j+1,0,d+1))
 else
  let y <- elem' a i
  if i+1+1==a.size then pure (.done (some (dl a b (o.push y) (i+1) j),o.push y,i+1,j,c+1,0))
  else if c+1>=g then pure (.done (none,o.push y,i+1,j,c+1,0))
  else pure (.yield (none,o.push y,i+1,j,c+1,0))
def loO (a b:Array Keyed)(q:T5):SM (ForInStep T5):=do
 let u <- forIn [0:a.size+b.size] ((none,q.2.1,q.2.2.1,q.2.2.2.1,0,0):T6) fun _ z=>lo1 a b q.2.2.2.2 z
 match u.1 with
 | some x=>pure (.done (some x,u.2.1,u.2.2.1,u.2.2.2.1,q.2.2.2.2))
 | none =>
  rule "list.sort.gallop"
  let v <- forIn [0:a.size+b.size] ((none,u.2.1,u.2.2.1,u.2.2.2.1,q.2.2.2.2+1,u.2.2.2.2.1,u.2.2.2.2.2):T7) fun _ z=>lo2 a b z
  match v.1 with
  | some x=>pure (.done (some x,v.2.1,v.2.2.1,v.2.2.2.1,v.2.2.2.2.1))
  | none=>do
   setG (v.2.2.2.2.1+1)
   pure (.yield (none,v.2.1,v.2.2.1,v.2.2.2.1,v.2.2.2.2.1+1))
theorem c1i (a b:Array Keyed):mLo a b=(do
  rule "list.sort.merge-lo"
  let t:=a.size+b.size
  let mut o:Array Keyed:=#[<- elem' b 0]
  let mut i:=0
  let mut j:=1
  if j==b.size then return dn a b o i j
  if i+1==a.size then return dl a b o i j
  let mut g:=gallopOf (<- get)
  for _ in [0:t] do
   let mut c:=0
   let mut d:=0
   for _ in [0:t] do
    let some z <- lt' (<- elem' b j) (<- elem' a i) | return dn a b o i j
    if z then
     o:=o.push (<- elem' b j);j:=j+1;d:=d+1;c:=0
     if j==b.size then return dn a b o i j
     if d>=g then break
    else
     o:=o.push (<- elem' a i);i:=i+1;c:=c+1;d:=0
     if i+1==a.size then return dl a b o i j
     if c>=g then break
   rule "list.sort.gallop"
   g:=g+1
   for _ in [0:t] do
    if g > 1 then g:=g - 1
    setG g
    let some k <- gal false (<- elem' b j) a i (a.size - i) 0 | return dn a b o i j
    c:=k
    if k > 0 then
     o:=o++a.extract i (i+k);i:=i+k
     if i+1==a.size then return dl a b o i j
     if i==a.size then return dn a b o i j
    o:=o.push (<- elem' b j);j:=j+1
    if j==b.size then return dn a b o i j
    let some k <- gal true (<- elem' a i) b j (b.size - j) 0 | return dn a b o i j
    d:=k
    if k > 0 then
     o:=o++b.extract j (j+k);j:=j+k
     if j==b.size then return dn a b o i j
    o:=o.push (<- elem' a i);i:=i+1
    if i+1==a.size then return dl a b o i j
    if c<7&&d<7 then break
   g:=g+1
   setG g
  (unsupported "internal:list.sort.merge-bound" : SM (Array Keyed))):=rfl
theorem c1h (a b:Array Keyed):mLo a b=(do
  rule "list.sort.merge-lo"
  let x <- elem' b 0
  if 1==b.size then return dn a b #[x] 0 1
  if 0+1==a.size then return dl a b #[x] 0 1
  let u <- get
  let v <- forIn [0:a.size+b.size] ((none,#[x],0,1,gallopOf u):T5) fun _ z=>loO a b z
  match v.1 with
  | some x=>pure x
  | none=>(unsupported "internal:list.sort.merge-bound" : SM (Array Keyed))):=by
 refine(c1i a b).trans ?_
 dsimp only
 refine congrArg (bind _) (funext fun _=>?_)
 refine congrArg (bind _) (funext fun x=>?_)
 refine ite_congr rfl (fun _=>rfl) fun _=>?_
 refine ite_congr rfl (fun _=>rfl) fun _=>?_
 refine congrArg (bind _) (funext fun u=>?_)
 refine congr (congrArg bind (congrArg (forIn _ _) (funext fun _=>funext fun q=>?_))) (funext fun v=>?_)
 ·unfold loO
  refine congr (congrArg bind (congrArg (forIn _ _) (funext fun _=>funext fun q2=>?_))) (funext fun v=>?_)
  ·unfold lo1
   rfl
  ·rcases v with⟨v,v2⟩
   cases v with
   | some v=>rfl
   | none =>
    dsimp only
    refine congrArg (bind _) (funext fun _=>?_)
    refine congr (congrArg bind (congrArg (forIn _ _) (funext fun _=>funext fun q3=>?_))) (funext fun v=>?_)
    ·unfold lo2 loA loB loC
     rfl
    ·rcases v with⟨v,v2⟩
     cases v with
     | some v=>rfl
     | none=>rfl
 ·rcases v with⟨v,v2⟩
  cases v with
  | some v=>rfl
  | none=>rfl
section
variable {M:Model}{A:Around}{E:Value->Shared->Prop}{s:Shared}{κ:SortKind}{r:Keyed->Int}{P:Keyed->Prop}{a b:Array Keyed}{all:List Keyed}
structure Two (r:Keyed->Int)(P:Keyed->Prop)(a b:Array Keyed):Prop where
 pa:∀x∈a.toList,P x
 pb:∀x∈b.toList,P x
 sa:Srt r a.toList
 sb:Srt r b.toList
 la:∀(h:a.size - 1<a.size),∀x∈b.toList,r x<r a[a.size - 1]
 fb:∀(h:0<b.size),∀x∈a.toList,r b[0]<r x
abbrev JL (r:Keyed->Int)(all:List Keyed)(a b o:Array Keyed)(i j:Nat):Prop:=Mg r all o.toList (a.toList.drop i) (b.toList.drop j)
theorem l0l (sa:Srt r a.toList){i:Nat}(h:i<a.size){z:Int}(hz:z<=r a[i]):∀y∈a.toList.drop i,z<=r y:=fun y hy=>by
 obtain⟨k,h1,h2,rfl⟩:=q0s hy
 exact Int.le_trans hz (j0x sa h1 h2)
theorem JL.pushB (t:Two r P a b){o:Array Keyed}{i j:Nat}(m:JL r all a b o i j)(hi:i<a.size)(hj:j<b.size)(h:r b[j]<=r a[i]):JL r all a b (o.push b[j]) i (j+1):=by
 unfold JL at m ⊢
 rw[u0q hj]at m
 have:=m.takeB (X:=[b[j]]) (B:=b.toList.drop (j+1)) fun x hx y hy=>by
  rw[List.mem_singleton]at hx;subst hx
  exact l0l t.sa hi h y hy
 simpa using this
theorem JL.pushA (t:Two r P a b){o:Array Keyed}{i j:Nat}(m:JL r all a b o i j)(hi:i<a.size)(hj:j<b.size)(h:r a[i]<=r b[j]):JL r all a b (o.push a[i]) (i+1) j:=by
 unfold JL at m ⊢
 rw[u0q hi]at m
 have:=m.takeA (X:=[a[i]]) (A:=a.toList.drop (i+1)) fun x hx y hy=>by
  rw[List.mem_singleton]at hx;subst hx
  exact l0l t.sb hj h y hy
 simpa using this
theorem JL.appA (t:Two r P a b){o:Array Keyed}{i j k:Nat}(m:JL r all a b o i j)(hj:j<b.size)(h:∀n,i<=n->n<i+k->∀z:n<a.size,r a[n]<=r b[j]):JL r all a b (o++a.extract i (i+k)) (i+k) j:=by
 unfold JL at m ⊢
 rw[n0o (k:=k)]at m
 have:=m.takeA fun x hx y hy=>by
  obtain⟨n,h1,h2,h3,rfl⟩:=u0o hx
  exact l0l t.sb hj (h n h1 h2 h3) y hy
 rw[Array.toList_append];exact this
theorem JL.appB (t:Two r P a b){o:Array Keyed}{i j k:Nat}(m:JL r all a b o i j)(hi:i<a.size)(h:∀n,j<=n->n<j+k->∀z:n<b.size,r b[n]<=r a[i]):JL r all a b (o++b.extract j (j+k)) i (j+k):=by
 unfold JL at m ⊢
 rw[n0o (a:=b) (k:=k)]at m
 have:=m.takeB fun x hx y hy=>by
  obtain⟨n,h1,h2,h3,rfl⟩:=u0o hx
  exact l0l t.sa hi (h n h1 h2 h3) y hy
 rw[Array.toList_append];exact this
theorem JL.dn {o:Array Keyed}{i j:Nat}(m:JL r all a b o i j)(hj:j=b.size):Res r all (dn a b o i j):=by
 have e:(L2.dn a b o i j).toList=o.toList++a.toList.drop i++b.toList.drop j:=by unfold L2.dn;rw[Array.toList_append,Array.toList_append,h0y,h0y]
 unfold Res
 rw[e]
 refine⟨m.pm,?_⟩
 have hn:b.toList.drop j=[]:=by subst hj;simp
 rw[hn,List.append_nil]
 exact List.pairwise_append.mpr ⟨m.so,m.sa,m.oa⟩
theorem JL.dl (t:Two r P a b){o:Array Keyed}{i j:Nat}(m:JL r all a b o i j)(hi:i+1=a.size):Res r all (dl a b o i j):=by
 have e:(L2.dl a b o i j).toList=o.toList++b.toList.drop j++a.toList.drop i:=by unfold L2.dl;rw[Array.toList_append,Array.toList_append,h0y,h0y]
 unfold Res
 rw[e]
 refine⟨List.Perm.trans ?_ m.pm,?_⟩
 ·rw[List.append_assoc,List.append_assoc]
  exact List.Perm.append_left _ List.perm_append_comm
 ·refine List.pairwise_append.mpr ⟨List.pairwise_append.mpr ⟨m.so,m.sb,m.ob⟩,m.sa,fun x hx y hy=>?_⟩
  rcases List.mem_append.mp hx with q | q
  ·exact m.oa x q y hy
  ·obtain⟨n,h1,h2,rfl⟩:=q0s hy
   have:n=a.size - 1:=by omega
   subst this
   exact Int.le_of_lt (t.la h2 x (List.mem_of_mem_drop q))
def IV (r:Keyed->Int)(all:List Keyed)(a b:Array Keyed)(n:Nat)(z:Option (Array Keyed))(o:Array Keyed)(i j:Nat):Prop :=
 (∃x,z=some x/\Res r all x)∨(z=none/\JL r all a b o i j/\i+1<a.size/\j<b.size/\n<=i+j)
theorem c0f {st:SortSt}{g:Nat}(hk:kindOf st=κ):kindOf (stG st g)=κ:=hk
theorem a1r (C:Cm M A E s κ r P)(t:Two r P a b){st:SortSt}(hk:kindOf st=κ){o:Array Keyed}{i j c d g n:Nat}(m:JL r all a b o i j)(hi:i+1<a.size)(hj:j<b.size)(hn:n<=i+j){Q:ForInStep T6->SortSt->Prop}
  (hd:∀z o i j c d,IV r all a b (n+1) z o i j->Q (.done (z,o,i,j,c,d)) st) (hy:∀o i j c d,IV r all a b (n+1) none o i j->Q (.yield (none,o,i,j,c,d)) st):wpS M A E s (lo1 a b g (none,o,i,j,c,d)) Q st:=by
 unfold lo1
 dsimp only
 have hi':i<a.size:=by omega
 refine wpS_bind (b0e (Array.getElem?_eq_getElem hj) (wpS_bind (b0e (Array.getElem?_eq_getElem hi') (wpS_bind (C.lt _ _ (t.pb _ (by simp)) (t.pa _ (by simp)) _ _ hk ?_)))))
 dsimp only
 by_cases z:r b[j]<r a[i]
 ·rw[decide_eq_true z,if_pos rfl]
  refine wpS_bind (b0e (Array.getElem?_eq_getElem hj) ?_)
  have m':=m.pushB t hi' hj (Int.le_of_lt z)
  by_cases e:j+1=b.size
  ·rw[if_pos (by simpa using e)]
   exact wpS_pure (hd _ _ _ _ _ _ (.inl ⟨_,rfl,m'.dn e⟩))
  ·rw[if_neg (by simpa using e)]
   have iv:IV r all a b (n+1) none (o.push b[j]) i (j+1):=.inr ⟨rfl,m',hi,by omega,by omega⟩
   split
   ·exact wpS_pure (hd _ _ _ _ _ _ iv)
   ·exact wpS_pure (hy _ _ _ _ _ iv)
 ·rw[decide_eq_false z,if_neg (by simp)]
  refine wpS_bind (b0e (Array.getElem?_eq_getElem hi') ?_)
  have m':=m.pushA t hi' hj (by omega)
  by_cases e:i+1+1=a.size
  ·rw[if_pos (by simpa using e)]
   exact wpS_pure (hd _ _ _ _ _ _ (.inl ⟨_,rfl,m'.dl t e⟩))
  ·rw[if_neg (by simpa using e)]
   have iv:IV r all a b (n+1) none (o.push a[i]) (i+1) j:=.inr ⟨rfl,m',by omega,hj,by omega⟩
   split
   ·exact wpS_pure (hd _ _ _ _ _ _ iv)
   ·exact wpS_pure (hy _ _ _ _ _ iv)
theorem w0y (C:Cm M A E s κ r P)(t:Two r P a b){st:SortSt}{o:Array Keyed}{i j c d g n:Nat}(m:JL r all a b o i j)(hi:i+1<a.size)(hj:j<b.size)(hn:n<=i+j)(hl:r (a[i]'(by omega))<=r b[j]){Q:ForInStep T7->SortSt->Prop}
  (hd:∀z o i j c d,IV r all a b n z o i j->Q (.done (z,o,i,j,g,c,d)) st) (hy:∀o i j c d,IV r all a b n none o i j->Q (.yield (none,o,i,j,g,c,d)) st):wpS M A E s (loC a b o i j g c d) Q st:=by
 unfold loC
 have hi':i<a.size:=by omega
 refine wpS_bind (b0e (Array.getElem?_eq_getElem hi') ?_)
 have m':=m.pushA t hi' hj hl
 by_cases e:i+1+1=a.size
 ·rw[if_pos (by simpa using e)]
  exact wpS_pure (hd _ _ _ _ _ _ (.inl ⟨_,rfl,m'.dl t e⟩))
 ·rw[if_neg (by simpa using e)]
  have iv:IV r all a b n none (o.push a[i]) (i+1) j:=.inr ⟨rfl,m',by omega,hj,by omega⟩
  split
  ·exact wpS_pure (hd _ _ _ _ _ _ iv)
  ·exact wpS_pure (hy _ _ _ _ _ iv)
theorem w0z (C:Cm M A E s κ r P)(t:Two r P a b){st:SortSt}(hk:kindOf st=κ){o:Array Keyed}{i j c d g n:Nat}(m:JL r all a b o i j)(hi:i+1<a.size)(hj:j<b.size)(hn:n<=i+j)(hl:r b[j]<=r (a[i]'(by omega))){Q:ForInStep T7->SortSt->Prop}
  (hd:∀z o i j c d,IV r all a b n z o i j->Q (.done (z,o,i,j,g,c,d)) st) (hy:∀o i j c d,IV r all a b n none o i j->Q (.yield (none,o,i,j,g,c,d)) st):wpS M A E s (loB a b o i j g c d) Q st:=by
 unfold loB
 have hi':i<a.size:=by omega
 refine wpS_bind (b0e (Array.getElem?_eq_getElem hj) ?_)
 have m':=m.pushB t hi' hj hl
 by_cases e:j+1=b.size
 ·rw[if_pos (by simpa using e)]
  exact wpS_pure (hd _ _ _ _ _ _ (.inl ⟨_,rfl,m'.dn e⟩))
 ·rw[if_neg (by simpa using e)]
  refine wpS_bind (b0e (Array.getElem?_eq_getElem hi') (wpS_bind (j0t C hk (t.pa _ (by simp)) t.pb (by omega) (fun x y xy hy=>j0x t.sb (by omega) (by omega)) (by omega) fun k hk1 hk2 hk3=>?_)))
  dsimp only
  have lo:∀n,j+1<=n->n<j+1+k->∀z:n<b.size,r b[n]<=r a[i]:=fun n h1 h2 z=>by
   obtain⟨x,rfl⟩:∃x,n=j+1+x:=⟨n - (j+1),by omega⟩
   have:=hk2 x (by omega) z
   unfold bT at this;simp at this;omega
  have hi2:∀z:j+1+k<b.size,r a[i]<=r b[j+1+k]:=fun z=>by
   have:=hk3 k (Nat.le_refl _) (by omega) z
   unfold bT at this;simp at this;omega
  by_cases k0:k > 0
  ·rw[if_pos k0]
   have m2:=m'.appB t hi' lo
   by_cases e2:j+1+k=b.size
   ·rw[if_pos (by simpa using e2)]
    exact wpS_pure (hd _ _ _ _ _ _ (.inl ⟨_,rfl,m2.dn e2⟩))
   ·rw[if_neg (by simpa using e2)]
    exact w0y C t m2 hi (by omega) (by omega) (hi2 _) hd hy
  ·rw[if_neg k0]
   have:k=0:=by omega
   subst this
   exact w0y C t m' hi (by omega) (by omega) (hi2 (by omega)) hd hy
theorem x0a (C:Cm M A E s κ r P)(t:Two r P a b){st:SortSt}(hk:kindOf st=κ){o:Array Keyed}{i j c d g n:Nat}(m:JL r all a b o i j)(hi:i+1<a.size)(hj:j<b.size)(hn:n<=i+j){Q:ForInStep T7->SortSt->Prop}
  (hd:∀z o i j c d,IV r all a b n z o i j->Q (.done (z,o,i,j,g,c,d)) (stG st g)) (hy:∀o i j c d,IV r all a b n none o i j->Q (.yield (none,o,i,j,g,c,d)) (stG st g)):wpS M A E s (loA a b o i j g c d) Q st:=by
 unfold loA
 have hi':i<a.size:=by omega
 rw[l0a]
 refine wpS_bind (wpS_modify (wpS_bind (b0e (Array.getElem?_eq_getElem hj) (wpS_bind (j0t C (c0f hk) (t.pb _ (by simp)) t.pa (by omega) (fun x y xy hy=>j0x t.sa (by omega) (by omega)) (by omega) fun k hk1 hk2 hk3=>?_)))))
 dsimp only
 have lo:∀n,i<=n->n<i+k->∀z:n<a.size,r a[n]<=r b[j]:=fun n h1 h2 z=>by
  obtain⟨x,rfl⟩:∃x,n=i+x:=⟨n - i,by omega⟩
  have:=hk2 x (by omega) z
  unfold bT at this;simp at this;omega
 have hi2:∀z:i+k<a.size,r b[j]<=r a[i+k]:=fun z=>by
  have:=hk3 k (Nat.le_refl _) (by omega) z
  unfold bT at this;simp at this;omega
 have kl:i+k<a.size:=by
  rcases Nat.lt_or_ge (i+k) a.size with q | q
  ·exact q
  ·have h1:=lo (a.size - 1) (by omega) (by omega) (by omega)
   have h2:=t.la (by omega) b[j] (by simp)
   omega
 by_cases k0:k > 0
 ·rw[if_pos k0]
  have m2:=m.appA t hj lo
  by_cases e2:i+k+1=a.size
  ·rw[if_pos (by simpa using e2)]
   exact wpS_pure (hd _ _ _ _ _ _ (.inl ⟨_,rfl,m2.dl t e2⟩))
  ·rw[if_neg (by simpa using e2),if_neg (by simp;omega)]
   exact w0z C t (c0f hk) m2 (by omega) hj (by omega) (hi2 kl) hd hy
 ·rw[if_neg k0]
  have:k=0:=by omega
  subst this
  exact w0z C t (c0f hk) m hi hj hn (hi2 kl) hd hy
end
section
variable {M:Model}{A:Around}{E:Value->Shared->Prop}{s:Shared}{κ:SortKind}{r:Keyed->Int}{P:Keyed->Prop}{a b:Array Keyed}{all:List Keyed}
theorem IV.weak {n m:Nat}{z:Option (Array Keyed)}{o:Array Keyed}{i j:Nat}(h:IV r all a b m z o i j)(nm:n<=m):IV r all a b n z o i j:=h.imp id fun⟨a1,a2,a3,a4,a5⟩=>⟨a1,a2,a3,a4,Nat.le_trans nm a5⟩
theorem a1q (C:Cm M A E s κ r P)(t:Two r P a b){st:SortSt}(hk:kindOf st=κ){o:Array Keyed}{i j g n:Nat}(m:JL r all a b o i j)(hi:i+1<a.size)(hj:j<b.size)(hn:n<=i+j){Q:ForInStep T5->SortSt->Prop}
  (hd:∀z o i j g g',(∃x,z=some x/\Res r all x)->Q (.done (z,o,i,j,g)) (stG st g')) (hy:∀o i j g g',IV r all a b (n+1) none o i j->Q (.yield (none,o,i,j,g)) (stG st g')):wpS M A E s (loO a b (none,o,i,j,g)) Q st:=by
 unfold loO
 dsimp only
 refine wpS_bind (wpS_mono (wpS_forRange (I:=fun x c st'=>st'=st/\∃o i j c1 d,c=(none,o,i,j,c1,d)/\IV r all a b (n+x) none o i j)
  (Q:=fun c st'=>st'=st/\IV r all a b (n+1) c.1 c.2.1 c.2.2.1 c.2.2.2.1) ?_ ?_ ⟨rfl,o,i,j,0,0,rfl,.inr ⟨rfl,m,hi,hj,by omega⟩⟩) ?_)
 ·rintro x c st' _ hx ⟨rfl,o,i,j,c1,d,rfl,iv⟩
  rcases iv with⟨_,e,_⟩ | ⟨_,m,hi,hj,hn⟩
  ·cases e
  ·refine a1r C t hk m hi hj hn (fun z o i j c d iv=>⟨rfl,?_⟩) fun o i j c d iv=>⟨rfl,o,i,j,c,d,rfl,?_⟩
   ·exact iv.weak (by omega)
   ·exact iv.weak (by omega)
 ·rintro c st' ⟨rfl,o,i,j,c1,d,rfl,iv⟩
  exact⟨rfl,iv.weak (by omega)⟩
 ·rintro⟨z,o,i,j,c1,d⟩ st' ⟨rfl,iv⟩
  dsimp only at iv ⊢
  rcases iv with⟨x,rfl,hx⟩ | ⟨rfl,m,hi,hj,hn⟩
  ·exact wpS_pure (hd _ _ _ _ _ (gallopOf st') ⟨x,rfl,hx⟩)
  ·dsimp only
   refine wpS_bind (wpS_lift (wpAny_rule ⟨rfl,?_⟩))
   refine wpS_bind (wpS_mono (wpS_forRange (I:=fun x c st2=>(∃g',st2=stG st' g')/\∃o i j g c1 d,c=(none,o,i,j,g,c1,d)/\IV r all a b (n+1) none o i j)
    (Q:=fun c st2=>(∃g',st2=stG st' g')/\IV r all a b (n+1) c.1 c.2.1 c.2.2.1 c.2.2.2.1) ?_ ?_ ⟨⟨gallopOf st',rfl⟩,o,i,j,_,_,_,rfl,.inr ⟨rfl,m,hi,hj,hn⟩⟩) ?_)
   ·rintro x c st2 _ hx ⟨⟨g',rfl⟩,o,i,j,g,c1,d,rfl,iv⟩
    rcases iv with⟨_,e,_⟩ | ⟨_,m,hi,hj,hn⟩
    ·cases e
    ·unfold lo2
     dsimp only
     split
     ·exact x0a C t (c0f hk) m hi hj hn (fun z o i j c d iv=>⟨⟨_,rfl⟩,iv⟩) fun o i j c d iv=>⟨⟨_,rfl⟩,_,_,_,_,_,_,rfl,iv⟩
     ·exact x0a C t (c0f hk) m hi hj hn (fun z o i j c d iv=>⟨⟨_,rfl⟩,iv⟩) fun o i j c d iv=>⟨⟨_,rfl⟩,_,_,_,_,_,_,rfl,iv⟩
   ·rintro c st2 ⟨g',o,i,j,g,c1,d,rfl,iv⟩
    exact⟨g',iv⟩
   ·rintro⟨z,o,i,j,g,c1,d⟩ st2 ⟨⟨g',rfl⟩,iv⟩
    dsimp only at iv ⊢
    rcases iv with⟨x,rfl,hx⟩ | ⟨rfl,m,hi,hj,hn⟩
    ·exact wpS_pure (hd _ _ _ _ _ _ ⟨x,rfl,hx⟩)
    ·dsimp only
     rw[l0a]
     exact wpS_bind (wpS_modify (wpS_pure (hy _ _ _ _ _ (.inr ⟨rfl,m,hi,hj,hn⟩))))
theorem Mg.start (sa:Srt r a.toList)(sb:Srt r b.toList):Mg r (a.toList++b.toList) [] a.toList b.toList :=
 ⟨List.Perm.refl _,List.Pairwise.nil,sa,sb,(fun _ h=>nomatch h),(fun _ h=>nomatch h)⟩
theorem a1n (C:Cm M A E s κ r P)(t:Two r P a b){st:SortSt}(hk:kindOf st=κ)(ha:0<a.size)(hb:0<b.size){Q:Array Keyed->SortSt->Prop}(h:∀x g,Res r (a.toList++b.toList) x->Q x (stG st g)):wpS M A E s (mLo a b) Q st:=by
 rw[c1h]
 refine wpS_bind (wpS_lift (wpAny_rule ⟨rfl,?_⟩))
 refine wpS_bind (b0e (Array.getElem?_eq_getElem hb) ?_)
 have m0:JL r (a.toList++b.toList) a b #[] 0 0:=by
  show Mg _ _ _ _ _
  rw[List.drop_zero,List.drop_zero]
  exact Mg.start t.sa t.sb
 have m:JL r (a.toList++b.toList) a b #[b[0]] 0 1:=m0.pushB t ha hb (Int.le_of_lt (t.fb hb _ (by simp)))
 by_cases e1:1=b.size
 ·rw[if_pos (by simpa using e1)]
  exact wpS_pure (h _ (gallopOf st) (m.dn e1))
 rw[if_neg (by simpa using e1)]
 by_cases e2:0+1=a.size
 ·rw[if_pos (by simpa using e2)]
  exact wpS_pure (h _ (gallopOf st) (m.dl t e2))
 rw[if_neg (by simpa using e2)]
 refine wpS_bind (wpS_get (wpS_bind (wpS_mono (wpS_forRange (I:=fun x c st2=>(∃g',st2=stG st g')/\∃o i j g,c=(none,o,i,j,g)/\IV r (a.toList++b.toList) a b x none o i j)
  (Q:=fun c st2=>(∃g',st2=stG st g')/\∃x,c.1=some x/\Res r (a.toList++b.toList) x) ?_ ?_ ⟨⟨gallopOf st,rfl⟩,_,_,_,_,rfl,.inr ⟨rfl,m,by omega,by omega,by omega⟩⟩) ?_)))
 ·rintro x c st2 _ hx ⟨⟨g',rfl⟩,o,i,j,g,rfl,iv⟩
  rcases iv with⟨_,e,_⟩ | ⟨_,m,hi,hj,hn⟩
  ·cases e
  ·exact a1q C t (c0f hk) m hi hj hn (fun z o i j g g' e=>⟨⟨_,rfl⟩,e⟩) fun o i j g g' iv=>⟨⟨_,rfl⟩,_,_,_,_,rfl,iv⟩
 ·rintro c st2 ⟨g',o,i,j,g,rfl,iv⟩
  rcases iv with⟨_,e,_⟩ | ⟨_,m,hi,hj,hn⟩
  ·cases e
  ·omega
 ·rintro⟨z,q⟩ st2 ⟨⟨g',rfl⟩,x,e,hx⟩
  dsimp only at e ⊢
  subst e
  exact wpS_pure (h _ _ hx)
end
def mHi:Array Keyed->Array Keyed->SM (Array Keyed):=sortPriv% PySem.Builtin.mergeHi
def hn (a b o:Array Keyed)(p q:Nat):Array Keyed:=a.extract 0 p++b.extract 0 q++o.reverse
def hf (a b o:Array Keyed)(p q:Nat):Array Keyed:=b.extract 0 q++a.extract 0 p++o.reverse
theorem c1k (a b:Array Keyed):mHi a b=(do
  rule "list.sort.merge-hi"
  let t:=a.size+b.size
  let mut p:=a.size - 1
  let mut q:=b.size
  let mut o:Array Keyed:=#[<- elem' a p]
  if p==0 then return hn a b o p q
  if q==1 then return hf a b o p q
  let mut g:=gallopOf (<- get)
  for _ in [0:t] do
   let mut c:=0
   let mut d:=0
   for _ in [0:t] do
    let some z <- lt' (<- elem' b (q - 1)) (<- elem' a (p - 1)) | return hn a b o p q
    if z then
     p:=p - 1;o:=o.push (<- elem' a p);c:=c+1;d:=0
     if p==0 then return hn a b o p q
     if c>=g then break
    else
     q:=q - 1;o:=o.push (<- elem' b q);d:=d+1;c:=0
     if q==1 then return hf a b o p q
     if d>=g then break
   rule "list.sort.gallop"
   g:=g+1
   for _ in [0:t] do
    if g > 1 then g:=g - 1
    setG g
    let some k <- gal false (<- elem' b (q - 1)) a 0 p (p - 1) | return hn a b o p q
    let l:=p - k
    c:=l
    if l > 0 then
     o:=o++(a.extract k p).reverse;p:=k
     if p==0 then return hn a b o p q
    q:=q - 1;o:=o.push (<- elem' b q)
    if q==1 then return hf a b o p q
    let some k <- gal true (<- elem' a (p - 1)) b 0 q (q - 1) | return hn a b o p q
    let l:=q - k
    d:=l
    if l > 0 then
     o:=o++(b.extract k q).reverse;q:=k
     if q==1 then return hf a b o p q
     if q==0 then return hn a b o p q
    p:=p - 1;o:=o.push (<- elem' a p)
    if p==0 then return hn a b o p q
    if c<7&&d<7 then break
   g:=g+1
   setG g
  (unsupported "internal:list.sort.merge-bound" : SM (Array Keyed))):=rfl
abbrev U7:=Option (Array Keyed)×Nat×Nat×Array Keyed×Nat×Nat×Nat
abbrev U6:=Option (Array Keyed)×Nat×Nat×Array Keyed×Nat×Nat
abbrev U5:=Option (Array Keyed)×Nat×Nat×Array Keyed×Nat
def hiC (a b o:Array Keyed)(p q g c d:Nat):SM (ForInStep U7):=do
 let x <- elem' a (p - 1)
 if p - 1==0 then pure (.done (some (hn a b (o.push x) (p - 1) q),p - 1,q,o.push x,g,c,d))
 else if c<7&&d<7 then pure (.done (none,p - 1,q,o.push x,g,c,d))
 else pure (.yield (none,p - 1,q,o.push x,g,c,d))
def hiB (a b o:Array Keyed)(p q g c d:Nat):SM (ForInStep U7):=do
 let x <- elem' b (q - 1)
 if q - 1==1 then pure (.done (some (hf a b (o.push x) p (q - 1)),p,q - 1,o.push x,g,c,d))
 else
  let y <- elem' a (p - 1)
  let some k <- gal true y b 0 (q - 1) (q - 1 - 1) | pure (.done (some (hn a b (o.push x) p (q - 1)),p,q - 1,o.push x,g,c,d))
  if q - 1 - k > 0 then
   if k==1 then pure (.done (some (hf a b (o.push x++(b.extract k (q - 1)).reverse) p k),p,k,o.push x++(b.extract k (q - 1)).reverse,g,c,q - 1 - k))
   else if k==0 then pure (.done (some (hn a b (o.push x++(b.extract k (q - 1)).reverse) p k),p,k,o.push x++(b.extract k (q - 1)).reverse,g,c,q - 1 - k))
   else hiC a b (o.push x++(b.extract k (q - 1)).reverse) p k g c (q - 1 - k)
  else hiC a b (o.push x) p (q - 1) g c (q - 1 - k)
def hiA (a b o:Array Keyed)(p q g c d:Nat):SM (ForInStep U7):=do
 setG g
 let y <- elem' b (q - 1)
 let some k <- gal false y a 0 p (p - 1) | pure (.done (some (hn a b o p q),p,q,o,g,c,d))
 if p - k > 0 then
  if k==0 then pure (.done (some (hn a b (o++(a.extract k p).reverse) k q),k,q,o++(a.extract k p).reverse,g,p - k,d))
  else hiB a b (o++(a.extract k p).reverse) k q g (p - k) d
 else hiB a b o p q g (p - k) d
def hi2 (a b:Array Keyed)(z:U7):SM (ForInStep U7) :=
 if z.2.2.2.2.1 > 1 then hiA a b z.2.2.2.1 z.2.1 z.2.2.1 (z.2.2.2.2.1 - 1) z.2.2.2.2.2.1 z.2.2.2.2.2.2 else hiA a b z.2.2.2.1 z.2.1 z.2.2.1 z.2.2.2.2.1 z.2.2.2.2.2.1 z.2.2.2.2.2.2
def hi1 (a b:Array Keyed)(g:Nat)(z:U6):SM (ForInStep U6):=do
 let p:=z.2.1
 let q:=z.2.2.1
 let o:=z.2.2.2.1
 let c:=z.2.2.2.2.1
 let d:=z.2.2.2.2.2
 let x <- elem' b (q - 1)
 let y <- elem' a (p - 1)
 let some z <- lt' x y | pure (.done (some (hn a b o p q),p,q,o,c,d))
 if z then
  let x <- elem' a (p - 1)
  if p - 1==0 then pure (.done (some (hn a b (o.push x) (p - 1) q),p - 1,q,o.push x,c+1,0))
  else if c+1>=g then pure (.done (none,p - 1,q,o.push x,c+1,0))
  else pure (.yield (none,p - 1,q,o.push x,c+1,0))
 else
  let y <- elem' b (q - 1)
  if q - 1==1 then pure (.done (some (hf a b (o.push y) p (q - 1)),p,q - 1,o.push y,0,d+1))
  else if d+1>=g then pure (.done (none,p,q - 1,o.push y,0,d+1))
  else pure (.yield (none,p,q - 1,o.push y,0,d+1))
def hiO (a b:Array Keyed)(q:U5):SM (ForInStep U5):=do
 let u <- forIn [0:a.size+b.size] ((none,q.2.1,q.2.2.1,q.2.2.2.1,0,0):U6) fun _ z=>hi1 a b q.2.2.2.2 z
 match u.1 with
 | some x=>pure (.done (some x,u.2.1,u.2.2.1,u.2.2.2.1,q.2.2.2.2))
 | none =>
  rule "list.sort.gallop"
  let v <- forIn [0:a.size+b.size] ((none,u.2.1,u.2.2.1,u.2.2.2.1,q.2.2.2.2+1,u.2.2.2.2.1,u.2.2.2.2.2):U7) fun _ z=>hi2 a b z
  match v.1 with
  | some x=>pure (.done (some x,v.2.1,v.2.2.1,v.2.2.2.1,v.2.2.2.2.1))
  | none=>do
   setG (v.2.2.2.2.1+1)
   pure (.yield (none,v.2.1,v.2.2.1,v.2.2.2.1,v.2.2.2.2.1+1))
theorem c1j (a b:Array Keyed):mHi a b=(do
  rule "list.sort.merge-hi"
  let x <- elem' a (a.size - 1)
  if a.size - 1==0 then return hn a b #[x] (a.size - 1) b.size
  if b.size==1 then return hf a b #[x] (a.size - 1) b.size
  let u <- get
  let v <- forIn [0:a.size+b.size] ((none,a.size - 1,b.size,#[x],gallopOf u):U5) fun _ z=>hiO a b z
  match v.1 with
  | some x=>pure x
  | none=>(unsupported "internal:list.sort.merge-bound" : SM (Array Keyed))):=by
 refine(c1k a b).trans ?_
 dsimp only
 refine congrArg (bind _) (funext fun _=>?_)
 refine congrArg (bind _) (funext fun x=>?_)
 refine ite_congr rfl (fun _=>rfl) fun _=>?_
 refine ite_congr rfl (fun _=>rfl) fun _=>?_
 refine congrArg (bind _) (funext fun u=>?_)
 refine congr (congrArg bind (congrArg (forIn _ _) (funext fun _=>funext fun q=>?_))) (funext fun v=>?_)
 ·unfold hiO
  refine congr (congrArg bind (congrArg (forIn _ _) (funext fun _=>funext fun q2=>?_))) (funext fun v=>?_)
  ·unfold hi1
   rfl
  ·rcases v with⟨v,v2⟩
   cases v with
   | some v=>rfl
   | none =>
    dsimp only
    refine congrArg (bind _) (funext fun _=>?_)
    refine congr (congrArg bind (congrArg (forIn _ _) (funext fun _=>funext fun q3=>?_))) (funext fun v=>?_)
    ·unfold hi2 hiA hiB hiC
     rfl
    ·rcases v with⟨v,v2⟩
     cases v with
     | some v=>rfl
     | none=>rfl
 ·rcases v with⟨v,v2⟩
  cases v with
  | some v=>rfl
  | none=>rfl
structure Mh (r:Keyed->Int)(all A B out:List Keyed):Prop where
 pm:(A++B++out).Perm all
 so:Srt r out
 sa:Srt r A
 sb:Srt r B
 ao:∀x∈A,∀y∈out,r x<=r y
 bo:∀x∈B,∀y∈out,r x<=r y
section
variable {r:Keyed->Int}{all out A B X:List Keyed}
theorem Mh.takeB (m:Mh r all A (B++X) out)(h:∀x∈X,∀y∈A,r y<=r x):Mh r all A B (X++out):=by
 have s:=List.pairwise_append.mp m.sb
 refine⟨by have:=m.pm;simpa [List.append_assoc] using this,List.pairwise_append.mpr ⟨s.2.1,m.so,fun x hx y hy=>m.bo x (List.mem_append_right _ hx) y hy⟩,m.sa,s.1,fun x hx y hy=>?_,fun x hx y hy=>?_⟩
 ·rcases List.mem_append.mp hy with q | q
  ·exact h y q x hx
  ·exact m.ao x hx y q
 ·rcases List.mem_append.mp hy with q | q
  ·exact s.2.2 x hx y q
  ·exact m.bo x (List.mem_append_left _ hx) y q
theorem Mh.takeA (m:Mh r all (A++X) B out)(h:∀x∈X,∀y∈B,r y<=r x):Mh r all A B (X++out):=by
 have s:=List.pairwise_append.mp m.sa
 refine⟨?_,List.pairwise_append.mpr ⟨s.2.1,m.so,fun x hx y hy=>m.ao x (List.mem_append_right _ hx) y hy⟩,s.1,m.sb,fun x hx y hy=>?_,fun x hx y hy=>?_⟩
 ·refine List.Perm.trans ?_ m.pm
  rw[List.append_assoc,List.append_assoc,List.append_assoc]
  refine List.Perm.append_left A ?_
  rw[<- List.append_assoc,<- List.append_assoc]
  exact List.Perm.append_right out List.perm_append_comm
 ·rcases List.mem_append.mp hy with q | q
  ·exact s.2.2 x hx y q
  ·exact m.ao x (List.mem_append_left _ hx) y q
 ·rcases List.mem_append.mp hy with q | q
  ·exact h y q x hx
  ·exact m.bo x hx y q
end
theorem s0m {a:Array Keyed}{p:Nat}(h:p - 1<a.size)(h0:0<p):a.toList.take p=a.toList.take (p - 1)++[a[p - 1]]:=by
 obtain⟨n,rfl⟩:∃n,p=n+1:=⟨p - 1,by omega⟩
 simp only[Nat.add_sub_cancel]at h ⊢
 rw[List.take_succ_eq_append_getElem (by simpa using h)];simp
theorem p0w {a:Array Keyed}{p:Nat}{x:Keyed}(h:x∈a.toList.take p):∃k,k<p/\∃(q:k<a.size),a[k]=x:=by
 obtain⟨n,hn,e⟩:=List.getElem_of_mem h
 rw[List.getElem_take]at e
 rw[List.length_take]at hn
 exact⟨n,by omega,by simp at hn;omega,by simpa using e⟩
theorem ext0 (a:Array Keyed)(p:Nat):(a.extract 0 p).toList=a.toList.take p:=by
 rw[Array.toList_extract,List.extract_eq_take_drop];simp
theorem j0w {a:Array Keyed}{k p:Nat}(h:k<=p):a.toList.take p=a.toList.take k++(a.extract k p).toList:=by
 rw[Array.toList_extract,List.extract_eq_take_drop]
 obtain⟨n,rfl⟩:∃n,p=k+n:=⟨p - k,by omega⟩
 rw[List.take_add,Nat.add_sub_cancel_left]
theorem q0q {a:Array Keyed}{k p:Nat}{x:Keyed}(h:x∈(a.extract k p).toList):∃m,k<=m/\m<p/\∃(q:m<a.size),a[m]=x:=by
 rw[Array.toList_extract,List.extract_eq_take_drop]at h
 obtain⟨n,hn,e⟩:=List.getElem_of_mem h
 rw[List.length_take,List.length_drop]at hn
 rw[List.getElem_take,List.getElem_drop]at e
 exact⟨k+n,by omega,by omega,by simp at hn;omega,by simpa using e⟩
section
variable {M:Model}{A:Around}{E:Value->Shared->Prop}{s:Shared}{κ:SortKind}{r:Keyed->Int}{P:Keyed->Prop}{a b:Array Keyed}{all:List Keyed}
abbrev JH (r:Keyed->Int)(all:List Keyed)(a b o:Array Keyed)(p q:Nat):Prop:=Mh r all (a.toList.take p) (b.toList.take q) o.toList.reverse
theorem l0q (sa:Srt r a.toList){p:Nat}(h:p - 1<a.size){z:Int}(hz:r a[p - 1]<=z):∀y∈a.toList.take p,r y<=z:=fun y hy=>by
 obtain⟨k,h1,h2,rfl⟩:=p0w hy
 exact Int.le_trans (j0x sa (by omega) h) hz
theorem JH.pushB (t:Two r P a b){o:Array Keyed}{p q:Nat}(m:JH r all a b o p q)(hp:p - 1<a.size)(hq:q - 1<b.size)(q0:0<q)(h:r a[p - 1]<=r b[q - 1]):JH r all a b (o.push b[q - 1]) p (q - 1):=by
 unfold JH at m ⊢
 rw[s0m hq q0]at m
 have:=m.takeB fun x hx y hy=>by
  rw[List.mem_singleton]at hx;subst hx
  exact l0q t.sa hp h y hy
 simpa using this
theorem JH.pushA (t:Two r P a b){o:Array Keyed}{p q:Nat}(m:JH r all a b o p q)(hp:p - 1<a.size)(hq:q - 1<b.size)(p0:0<p)(h:r b[q - 1]<=r a[p - 1]):JH r all a b (o.push a[p - 1]) (p - 1) q:=by
 unfold JH at m ⊢
 rw[s0m hp p0]at m
 have:=m.takeA fun x hx y hy=>by
  rw[List.mem_singleton]at hx;subst hx
  exact l0q t.sb hq h y hy
 simpa using this
theorem JH.appA (t:Two r P a b){o:Array Keyed}{p q k:Nat}(m:JH r all a b o p q)(kp:k<=p)(hq:q - 1<b.size)(h:∀n,k<=n->n<p->∀z:n<a.size,r b[q - 1]<=r a[n]):JH r all a b (o++(a.extract k p).reverse) k q:=by
 unfold JH at m ⊢
 rw[j0w kp]at m
 have:=m.takeA fun x hx y hy=>by
  obtain⟨n,h1,h2,h3,rfl⟩:=q0q hx
  exact l0q t.sb hq (h n h1 h2 h3) y hy
 rw[Array.toList_append,Array.toList_reverse,List.reverse_append,List.reverse_reverse];exact this
theorem JH.appB (t:Two r P a b){o:Array Keyed}{p q k:Nat}(m:JH r all a b o p q)(kq:k<=q)(hp:p - 1<a.size)(h:∀n,k<=n->n<q->∀z:n<b.size,r a[p - 1]<=r b[n]):JH r all a b (o++(b.extract k q).reverse) p k:=by
 unfold JH at m ⊢
 rw[j0w (a:=b) kq]at m
 have:=m.takeB fun x hx y hy=>by
  obtain⟨n,h1,h2,h3,rfl⟩:=q0q hx
  exact l0q t.sa hp (h n h1 h2 h3) y hy
 rw[Array.toList_append,Array.toList_reverse,List.reverse_append,List.reverse_reverse];exact this
theorem JH.hn {o:Array Keyed}{p q:Nat}(m:JH r all a b o p q)(h0:p=0∨q=0):Res r all (hn a b o p q):=by
 have e:(L2.hn a b o p q).toList=a.toList.take p++b.toList.take q++o.toList.reverse:=by unfold L2.hn;rw[Array.toList_append,Array.toList_append,ext0,ext0,Array.toList_reverse]
 unfold Res
 rw[e]
 refine⟨m.pm,List.pairwise_append.mpr ⟨List.pairwise_append.mpr ⟨m.sa,m.sb,fun x hx y hy=>?_⟩,m.so,fun x hx y hy=>?_⟩⟩
 ·rcases h0 with rfl | rfl
  ·simp at hx
  ·simp at hy
 ·rcases List.mem_append.mp hx with z | z
  ·exact m.ao x z y hy
  ·exact m.bo x z y hy
theorem JH.hf (t:Two r P a b){o:Array Keyed}{p q:Nat}(m:JH r all a b o p q)(hb:0<b.size)(h0:q=1):Res r all (hf a b o p q):=by
 have e:(L2.hf a b o p q).toList=b.toList.take q++a.toList.take p++o.toList.reverse:=by unfold L2.hf;rw[Array.toList_append,Array.toList_append,ext0,ext0,Array.toList_reverse]
 unfold Res
 rw[e]
 refine⟨List.Perm.trans (List.Perm.append_right _ List.perm_append_comm) m.pm,List.pairwise_append.mpr ⟨List.pairwise_append.mpr ⟨m.sb,m.sa,fun x hx y hy=>?_⟩,m.so,fun x hx y hy=>?_⟩⟩
 ·obtain⟨k,h1,h2,rfl⟩:=p0w hx
  have:k=0:=by omega
  subst this
  exact Int.le_of_lt (t.fb hb y (List.mem_of_mem_take hy))
 ·rcases List.mem_append.mp hx with z | z
  ·exact m.bo x z y hy
  ·exact m.ao x z y hy
def IH (r:Keyed->Int)(all:List Keyed)(a b:Array Keyed)(n:Nat)(z:Option (Array Keyed))(p q:Nat)(o:Array Keyed):Prop :=
 (∃x,z=some x/\Res r all x)∨(z=none/\JH r all a b o p q/\1<=p/\2<=q/\p<=a.size/\q<=b.size/\p+q+n<=a.size+b.size)
theorem IH.weak {n m:Nat}{z:Option (Array Keyed)}{o:Array Keyed}{i j:Nat}(h:IH r all a b m z i j o)(nm:n<=m):IH r all a b n z i j o:=h.imp id fun⟨a1,a2,a3,a4,a5,a6,a7⟩=>⟨a1,a2,a3,a4,a5,a6,by omega⟩
theorem a1t (C:Cm M A E s κ r P)(t:Two r P a b){st:SortSt}(hk:kindOf st=κ){o:Array Keyed}{p q c d g n:Nat}(m:JH r all a b o p q)(hp:1<=p)(hq:2<=q)(lp:p<=a.size)(lq:q<=b.size)(hn:p+q+n<=a.size+b.size){Q:ForInStep U6->SortSt->Prop}
  (hd:∀z p q o c d,IH r all a b (n+1) z p q o->Q (.done (z,p,q,o,c,d)) st) (hy:∀p q o c d,IH r all a b (n+1) none p q o->Q (.yield (none,p,q,o,c,d)) st):wpS M A E s (hi1 a b g (none,p,q,o,c,d)) Q st:=by
 unfold hi1
 dsimp only
 have hi:p - 1<a.size:=by omega
 have hj:q - 1<b.size:=by omega
 refine wpS_bind (b0e (Array.getElem?_eq_getElem hj) (wpS_bind (b0e (Array.getElem?_eq_getElem hi) (wpS_bind (C.lt _ _ (t.pb _ (by simp)) (t.pa _ (by simp)) _ _ hk ?_)))))
 dsimp only
 by_cases z:r b[q - 1]<r a[p - 1]
 ·rw[decide_eq_true z,if_pos rfl]
  refine wpS_bind (b0e (Array.getElem?_eq_getElem hi) ?_)
  have m':=m.pushA t hi hj (by omega) (Int.le_of_lt z)
  by_cases e:p - 1=0
  ·rw[if_pos (by simpa using e)]
   exact wpS_pure (hd _ _ _ _ _ _ (.inl ⟨_,rfl,m'.hn (.inl e)⟩))
  ·rw[if_neg (by simpa using e)]
   have iv:IH r all a b (n+1) none (p - 1) q (o.push a[p - 1]):=.inr ⟨rfl,m',by omega,by omega,by omega,by omega,by omega⟩
   split
   ·exact wpS_pure (hd _ _ _ _ _ _ iv)
   ·exact wpS_pure (hy _ _ _ _ _ iv)
 ·rw[decide_eq_false z,if_neg (by simp)]
  refine wpS_bind (b0e (Array.getElem?_eq_getElem hj) ?_)
  have m':=m.pushB t hi hj (by omega) (by omega)
  by_cases e:q - 1=1
  ·rw[if_pos (by simpa using e)]
   exact wpS_pure (hd _ _ _ _ _ _ (.inl ⟨_,rfl,m'.hf t (by omega) e⟩))
  ·rw[if_neg (by simpa using e)]
   have iv:IH r all a b (n+1) none p (q - 1) (o.push b[q - 1]):=.inr ⟨rfl,m',by omega,by omega,by omega,by omega,by omega⟩
   split
   ·exact wpS_pure (hd _ _ _ _ _ _ iv)
   ·exact wpS_pure (hy _ _ _ _ _ iv)
theorem x0b (C:Cm M A E s κ r P)(t:Two r P a b){st:SortSt}{o:Array Keyed}{p q c d g n:Nat}(m:JH r all a b o p q)(hp:1<=p)(hq:2<=q)(lp:p<=a.size)(lq:q<=b.size)(hn:p+q+n<=a.size+b.size)(hl:r (b[q - 1]'(by omega))<=r (a[p - 1]'(by omega))){Q:ForInStep U7->SortSt->Prop}
  (hd:∀z p q o c d,IH r all a b n z p q o->Q (.done (z,p,q,o,g,c,d)) st) (hy:∀p q o c d,IH r all a b n none p q o->Q (.yield (none,p,q,o,g,c,d)) st):wpS M A E s (hiC a b o p q g c d) Q st:=by
 unfold hiC
 have hi:p - 1<a.size:=by omega
 have hj:q - 1<b.size:=by omega
 refine wpS_bind (b0e (Array.getElem?_eq_getElem hi) ?_)
 have m':=m.pushA t hi hj (by omega) hl
 by_cases e:p - 1=0
 ·rw[if_pos (by simpa using e)]
  exact wpS_pure (hd _ _ _ _ _ _ (.inl ⟨_,rfl,m'.hn (.inl e)⟩))
 ·rw[if_neg (by simpa using e)]
  have iv:IH r all a b n none (p - 1) q (o.push a[p - 1]):=.inr ⟨rfl,m',by omega,by omega,by omega,by omega,by omega⟩
  split
  ·exact wpS_pure (hd _ _ _ _ _ _ iv)
  ·exact wpS_pure (hy _ _ _ _ _ iv)
theorem x0c (C:Cm M A E s κ r P)(t:Two r P a b){st:SortSt}(hk:kindOf st=κ){o:Array Keyed}{p q c d g n:Nat}(m:JH r all a b o p q)(hp:1<=p)(hq:2<=q)(lp:p<=a.size)(lq:q<=b.size)(hn:p+q+n<=a.size+b.size)(hl:r (a[p - 1]'(by omega))<=r (b[q - 1]'(by omega))){Q:ForInStep U7->SortSt->Prop}
  (hd:∀z p q o c d,IH r all a b n z p q o->Q (.done (z,p,q,o,g,c,d)) st) (hy:∀p q o c d,IH r all a b n none p q o->Q (.yield (none,p,q,o,g,c,d)) st):wpS M A E s (hiB a b o p q g c d) Q st:=by
 unfold hiB
 have hi:p - 1<a.size:=by omega
 have hj:q - 1<b.size:=by omega
 refine wpS_bind (b0e (Array.getElem?_eq_getElem hj) ?_)
 have m':=m.pushB t hi hj (by omega) hl
 by_cases e:q - 1=1
 ·rw[if_pos (by simpa using e)]
  exact wpS_pure (hd _ _ _ _ _ _ (.inl ⟨_,rfl,m'.hf t (by omega) e⟩))
 ·rw[if_neg (by simpa using e)]
  refine wpS_bind (b0e (Array.getElem?_eq_getElem hi) (wpS_bind (j0t C hk (t.pa _ (by simp)) t.pb (by omega) (fun x y xy hy=>j0x t.sb (by omega) (by omega)) (by omega) fun k hk1 hk2 hk3=>?_)))
  simp only[Nat.zero_add]at hk2 hk3
  dsimp only
  have up:∀n,k<=n->n<q - 1->∀z:n<b.size,r a[p - 1]<=r b[n]:=fun n h1 h2 z=>by
   have:=hk3 n h1 h2 z
   unfold bT at this;simp at this;omega
  have dwn:∀z:k - 1<b.size,0<k->r b[k - 1]<=r a[p - 1]:=fun z h=>by
   have:=hk2 (k - 1) (by omega) z
   unfold bT at this;simp at this;omega
  by_cases k0:q - 1 - k > 0
  ·rw[if_pos k0]
   have m2:=m'.appB t (by omega) hi up
   by_cases e1:k=1
   ·rw[if_pos (by simpa using e1)]
    exact wpS_pure (hd _ _ _ _ _ _ (.inl ⟨_,rfl,m2.hf t (by omega) e1⟩))
   ·rw[if_neg (by simpa using e1)]
    by_cases e2:k=0
    ·rw[if_pos (by simpa using e2)]
     exact wpS_pure (hd _ _ _ _ _ _ (.inl ⟨_,rfl,m2.hn (.inr e2)⟩))
    ·rw[if_neg (by simpa using e2)]
     exact x0b C t m2 hp (by omega) lp (by omega) (by omega) (dwn _ (by omega)) hd hy
  ·rw[if_neg k0]
   have:k=q - 1:=by omega
   subst this
   exact x0b C t m' hp (by omega) lp (by omega) (by omega) (dwn _ (by omega)) hd hy
theorem x0d (C:Cm M A E s κ r P)(t:Two r P a b){st:SortSt}(hk:kindOf st=κ){o:Array Keyed}{p q c d g n:Nat}(m:JH r all a b o p q)(hp:1<=p)(hq:2<=q)(lp:p<=a.size)(lq:q<=b.size)(hn:p+q+n<=a.size+b.size){Q:ForInStep U7->SortSt->Prop}
  (hd:∀z p q o c d,IH r all a b n z p q o->Q (.done (z,p,q,o,g,c,d)) (stG st g)) (hy:∀p q o c d,IH r all a b n none p q o->Q (.yield (none,p,q,o,g,c,d)) (stG st g)):wpS M A E s (hiA a b o p q g c d) Q st:=by
 unfold hiA
 have hi:p - 1<a.size:=by omega
 have hj:q - 1<b.size:=by omega
 rw[l0a]
 refine wpS_bind (wpS_modify (wpS_bind (b0e (Array.getElem?_eq_getElem hj) (wpS_bind (j0t C (c0f hk) (t.pb _ (by simp)) t.pa (by omega) (fun x y xy hy=>j0x t.sa (by omega) (by omega)) (by omega) fun k hk1 hk2 hk3=>?_)))))
 simp only[Nat.zero_add]at hk2 hk3
 dsimp only
 have up:∀n,k<=n->n<p->∀z:n<a.size,r b[q - 1]<=r a[n]:=fun n h1 h2 z=>by
  have:=hk3 n h1 h2 z
  unfold bT at this;simp at this;omega
 have dwn:∀z:k - 1<a.size,0<k->r a[k - 1]<=r b[q - 1]:=fun z h=>by
  have:=hk2 (k - 1) (by omega) z
  unfold bT at this;simp at this;omega
 by_cases k0:p - k > 0
 ·rw[if_pos k0]
  have m2:=m.appA t (by omega) hj up
  by_cases e1:k=0
  ·rw[if_pos (by simpa using e1)]
   exact wpS_pure (hd _ _ _ _ _ _ (.inl ⟨_,rfl,m2.hn (.inl e1)⟩))
  ·rw[if_neg (by simpa using e1)]
   exact x0c C t (c0f hk) m2 (by omega) hq (by omega) lq (by omega) (dwn _ (by omega)) hd hy
 ·rw[if_neg k0]
  have:k=p:=by omega
  subst this
  exact x0c C t (c0f hk) m hp hq lp lq hn (dwn _ (by omega)) hd hy
end
section
variable {M:Model}{A:Around}{E:Value->Shared->Prop}{s:Shared}{κ:SortKind}{r:Keyed->Int}{P:Keyed->Prop}{a b:Array Keyed}{all:List Keyed}
theorem a1s (C:Cm M A E s κ r P)(t:Two r P a b){st:SortSt}(hk:kindOf st=κ){o:Array Keyed}{p q g n:Nat}(m:JH r all a b o p q)(hp:1<=p)(hq:2<=q)(lp:p<=a.size)(lq:q<=b.size)(hn:p+q+n<=a.size+b.size){Q:ForInStep U5->SortSt->Prop}
  (hd:∀z p q o g g',(∃x,z=some x/\Res r all x)->Q (.done (z,p,q,o,g)) (stG st g')) (hy:∀p q o g g',IH r all a b (n+1) none p q o->Q (.yield (none,p,q,o,g)) (stG st g')):wpS M A E s (hiO a b (none,p,q,o,g)) Q st:=by
 unfold hiO
 dsimp only
 refine wpS_bind (wpS_mono (wpS_forRange (I:=fun x c st'=>st'=st/\∃p q o c1 d,c=(none,p,q,o,c1,d)/\IH r all a b (n+x) none p q o)
  (Q:=fun c st'=>st'=st/\IH r all a b (n+1) c.1 c.2.1 c.2.2.1 c.2.2.2.1) ?_ ?_ ⟨rfl,p,q,o,0,0,rfl,.inr ⟨rfl,m,hp,hq,lp,lq,by omega⟩⟩) ?_)
 ·rintro x c st' _ hx ⟨rfl,p,q,o,c1,d,rfl,iv⟩
  rcases iv with⟨_,e,_⟩ | ⟨_,m,hp,hq,lp,lq,hn⟩
  ·cases e
  ·exact a1t C t hk m hp hq lp lq hn (fun z p q o c d iv=>⟨rfl,iv.weak (by omega)⟩) fun p q o c d iv=>⟨rfl,p,q,o,c,d,rfl,iv.weak (by omega)⟩
 ·rintro c st' ⟨rfl,p,q,o,c1,d,rfl,iv⟩
  exact⟨rfl,iv.weak (by omega)⟩
 ·rintro⟨z,p,q,o,c1,d⟩ st' ⟨rfl,iv⟩
  dsimp only at iv ⊢
  rcases iv with⟨x,rfl,hx⟩ | ⟨rfl,m,hp,hq,lp,lq,hn⟩
  ·exact wpS_pure (hd _ _ _ _ _ (gallopOf st') ⟨x,rfl,hx⟩)
  ·dsimp only
   refine wpS_bind (wpS_lift (wpAny_rule ⟨rfl,?_⟩))
   refine wpS_bind (wpS_mono (wpS_forRange (I:=fun x c st2=>(∃g',st2=stG st' g')/\∃p q o g c1 d,c=(none,p,q,o,g,c1,d)/\IH r all a b (n+1) none p q o)
    (Q:=fun c st2=>(∃g',st2=stG st' g')/\IH r all a b (n+1) c.1 c.2.1 c.2.2.1 c.2.2.2.1) ?_ ?_ ⟨⟨gallopOf st',rfl⟩,p,q,o,_,_,_,rfl,.inr ⟨rfl,m,hp,hq,lp,lq,hn⟩⟩) ?_)
   ·rintro x c st2 _ hx ⟨⟨g',rfl⟩,p,q,o,g,c1,d,rfl,iv⟩
    rcases iv with⟨_,e,_⟩ | ⟨_,m,hp,hq,lp,lq,hn⟩
    ·cases e
    ·unfold hi2
     dsimp only
     split
     ·exact x0d C t (c0f hk) m hp hq lp lq hn (fun z p q o c d iv=>⟨⟨_,rfl⟩,iv⟩) fun p q o c d iv=>⟨⟨_,rfl⟩,_,_,_,_,_,_,rfl,iv⟩
     ·exact x0d C t (c0f hk) m hp hq lp lq hn (fun z p q o c d iv=>⟨⟨_,rfl⟩,iv⟩) fun p q o c d iv=>⟨⟨_,rfl⟩,_,_,_,_,_,_,rfl,iv⟩
   ·rintro c st2 ⟨g',p,q,o,g,c1,d,rfl,iv⟩
    exact⟨g',iv⟩
   ·rintro⟨z,p,q,o,g,c1,d⟩ st2 ⟨⟨g',rfl⟩,iv⟩
    dsimp only at iv ⊢
    rcases iv with⟨x,rfl,hx⟩ | ⟨rfl,m,hp,hq,lp,lq,hn⟩
    ·exact wpS_pure (hd _ _ _ _ _ _ ⟨x,rfl,hx⟩)
    ·dsimp only
     rw[l0a]
     exact wpS_bind (wpS_modify (wpS_pure (hy _ _ _ _ _ (.inr ⟨rfl,m,hp,hq,lp,lq,hn⟩))))
theorem a1o (C:Cm M A E s κ r P)(t:Two r P a b){st:SortSt}(hk:kindOf st=κ)(ha:0<a.size)(hb:0<b.size){Q:Array Keyed->SortSt->Prop}(h:∀x g,Res r (a.toList++b.toList) x->Q x (stG st g)):wpS M A E s (mHi a b) Q st:=by
 rw[c1j]
 have hi:a.size - 1<a.size:=by omega
 refine wpS_bind (wpS_lift (wpAny_rule ⟨rfl,?_⟩))
 refine wpS_bind (b0e (Array.getElem?_eq_getElem hi) ?_)
 have m0:JH r (a.toList++b.toList) a b #[] a.size b.size:=by
  show Mh _ _ _ _ _
  rw[List.take_of_length_le (by simp),List.take_of_length_le (by simp)]
  exact⟨by simp,List.Pairwise.nil,t.sa,t.sb,(fun _ _ _ h=>nomatch h),(fun _ _ _ h=>nomatch h)⟩
 have m:JH r (a.toList++b.toList) a b #[a[a.size - 1]] (a.size - 1) b.size:=m0.pushA t hi (by omega) ha (Int.le_of_lt (t.la hi _ (by simp)))
 by_cases e1:a.size - 1=0
 ·rw[if_pos (by simpa using e1)]
  exact wpS_pure (h _ (gallopOf st) (m.hn (.inl e1)))
 rw[if_neg (by simpa using e1)]
 by_cases e2:b.size=1
 ·rw[if_pos (by simpa using e2)]
  exact wpS_pure (h _ (gallopOf st) (m.hf t hb e2))
 rw[if_neg (by simpa using e2)]
 refine wpS_bind (wpS_get (wpS_bind (wpS_mono (wpS_forRange (I:=fun x c st2=>(∃g',st2=stG st g')/\∃p q o g,c=(none,p,q,o,g)/\IH r (a.toList++b.toList) a b x none p q o)
  (Q:=fun c st2=>(∃g',st2=stG st g')/\∃x,c.1=some x/\Res r (a.toList++b.toList) x) ?_ ?_ ⟨⟨gallopOf st,rfl⟩,_,_,_,_,rfl,.inr ⟨rfl,m,by omega,by omega,by omega,by omega,by omega⟩⟩) ?_)))
 ·rintro x c st2 _ hx ⟨⟨g',rfl⟩,p,q,o,g,rfl,iv⟩
  rcases iv with⟨_,e,_⟩ | ⟨_,m,hp,hq,lp,lq,hn⟩
  ·cases e
  ·exact a1s C t (c0f hk) m hp hq lp lq hn (fun z p q o g g' e=>⟨⟨_,rfl⟩,e⟩) fun p q o g g' iv=>⟨⟨_,rfl⟩,_,_,_,_,rfl,iv⟩
 ·rintro c st2 ⟨g',p,q,o,g,rfl,iv⟩
  rcases iv with⟨_,e,_⟩ | ⟨_,m,hp,hq,lp,lq,hn⟩
  ·cases e
  ·omega
 ·rintro⟨z,q⟩ st2 ⟨⟨g',rfl⟩,x,e,hx⟩
  dsimp only at e ⊢
  subst e
  exact wpS_pure (h _ _ hx)
end
def wr (a:Array Keyed)(u:Nat)(m:List Keyed):Array Keyed:=m.zipIdx.foldl (fun a (p,j)=>a.setIfInBounds (u+j) p) a
theorem c1l (i:Nat):mergeAt' i=(do
  let st <- get
  let (some (u,n,w),some (v,m,_)):=((pendingOf st)[i]?,(pendingOf st)[i+1]?) | (unsupported "internal:list.sort.pending" : SM Bool)
  set (SortSt.mk' (kindOf st) (arrOf st) (((pendingOf st).setIfInBounds i (u,n+m,w)).eraseIdxIfInBounds (i+1)) (gallopOf st) (failedOf st))
  let some k <- gal false (<- elem' (arrOf st) v) (arrOf st) u n 0 | return false
  if n - k==0 then return true
  let some l <- gal true (<- elem' (arrOf st) (u+k+(n - k) - 1)) (arrOf st) v m (m - 1) | return false
  if l==0 then return true
  let z <- if n - k<=l then mLo ((arrOf st).extract (u+k) v) ((arrOf st).extract v (v+l))else mHi ((arrOf st).extract (u+k) v) ((arrOf st).extract v (v+l))
  modify fun st=>setArr st (wr (arrOf st) (u+k) z.toList)
  return (failedOf (<- get)).isNone):=rfl
theorem a1l (s:Nat):∀(m v u w:List Keyed) (k:Nat) (a:Array Keyed),a.toList=u++v++w->u.length=s+k->v.length=m.length->((m.zipIdx k).foldl (fun a (p,j)=>a.setIfInBounds (s+j) p) a).toList=u++m++w
 | [],v,u,w,k,a,h,hu,hv=>by
  have:v=[]:=List.length_eq_zero_iff.mp hv
  subst this
  simpa using h
 | p::m,[],u,w,k,a,h,hu,hv=>by simp at hv
 | p::m,q::v,u,w,k,a,h,hu,hv=>by
  rw[List.zipIdx_cons,List.foldl_cons]
  have:=a1l s m v (u++[p]) w (k+1) (a.setIfInBounds (s+k) p) (by
   rw[Array.toList_setIfInBounds,h,<- hu]
   simp) (by simp;omega) (by simpa using hv)
  rw[this];simp
theorem y0c {a:Array Keyed}{u v w m:List Keyed}(h:a.toList=u++v++w)(hv:v.length=m.length):(wr a u.length m).toList=u++m++w:=a1l u.length m v u w 0 a h rfl hv
theorem g0v {a:Array Keyed}{u v w:List Keyed}(h:a.toList=u++v++w){i:Nat}(hi:i<v.length):∃q:u.length+i<a.size,a[u.length+i]=v[i]:=by
 have hs:a.size=(u++v++w).length:=by rw[<- h];simp
 have q:u.length+i<a.size:=by rw[hs];simp;omega
 refine⟨q,?_⟩
 rw[<- Array.getElem_toList]
 simp only[h]
 rw[List.getElem_append_left (by simp;omega),List.getElem_append_right (by omega)]
 simp
theorem u0n {a:Array Keyed}{u v w:List Keyed}(h:a.toList=u++v++w){i j:Nat}(hi:i=u.length)(hj:j=u.length+v.length):(a.extract i j).toList=v:=by
 subst hi;subst hj
 rw[Array.toList_extract,List.extract_eq_take_drop,h]
 simp
theorem cut3 (u v w:List Keyed)(k:Nat):u++v++w=u++v.take k++v.drop k++w:=by rw[List.append_assoc u (v.take k),List.take_append_drop]
section
variable {M:Model}{A:Around}{E:Value->Shared->Prop}{s:Shared}{κ:SortKind}{r:Keyed->Int}{P:Keyed->Prop}
theorem srtL {l:List Keyed}(h:Srt r l){i j:Nat}(ij:i<=j)(hj:j<l.length):r (l[i]'(by omega))<=r l[j]:=by
 rcases Nat.lt_or_ge i j with q | q
 ·exact List.pairwise_iff_getElem.mp h i j (by omega) hj q
 ·have:i=j:=by omega
  subst this;exact Int.le_refl _
theorem a1m {st st':SortSt}{Q:PUnit->SortSt->Prop}(h:Q ⟨⟩ st'):wpS M A E s (set st':SM PUnit) Q st:=by
 unfold wpS;rw[StateT.run_set];exact wpAny_pure ⟨rfl,h⟩
theorem w0x (C:Cm M A E s κ r P){st:SortSt}{i u v n m w w':Nat}{pre X Y post:List Keyed}(hk:kindOf st=κ)(hf:failedOf st=none)(p1:(pendingOf st)[i]? = some (u,n,w))(p2:(pendingOf st)[i+1]? = some (v,m,w'))
  (hl:(arrOf st).toList=pre++X++Y++post) (hP:∀x∈(arrOf st).toList,P x) (hu:u=pre.length) (hn:n=X.length) (hv:v=pre.length+X.length) (hm:m=Y.length) (sx:Srt r X) (sy:Srt r Y) (nx:0<X.length) (ny:0<Y.length) {Q:Bool->SortSt->Prop}
  (h:∀Z arr g,Z.Perm (X++Y)->Srt r Z->arr.toList=pre++Z++post->Q true (SortSt.mk' κ arr (((pendingOf st).setIfInBounds i (u,n+m,w)).eraseIdxIfInBounds (i+1)) g none)):wpS M A E s (mergeAt' i) Q st:=by
 subst hu hn hv hm
 have lx:(arrOf st).toList=pre++X++(Y++post):=by rw[hl];simp
 have ly:(arrOf st).toList=(pre++X)++Y++post:=hl
 have hsz:(arrOf st).size=pre.length+X.length+Y.length+post.length:=by rw[<- Array.length_toList,hl];simp;omega
 have atx:∀i,i<X.length->∃q:pre.length+i<(arrOf st).size,(arrOf st)[pre.length+i]=X[i]!:=fun i hi=>by
  obtain⟨q,e⟩:=g0v lx hi
  exact⟨q,by rw[e,List.getElem!_eq_getElem?_getD,List.getElem?_eq_getElem hi];rfl⟩
 have aty:∀i (hi:i<Y.length),∃q:pre.length+X.length+i<(arrOf st).size,(arrOf st)[pre.length+X.length+i]=Y[i]:=fun i hi=>by
  obtain⟨q,e⟩:=g0v ly hi
  simp only[List.length_append]at q e
  exact⟨q,e⟩
 have y0:pre.length+X.length<(arrOf st).size:=by omega
 have ey0:(arrOf st)[pre.length+X.length]=Y[0]:=by
  obtain⟨q,e⟩:=aty 0 ny
  exact e
 rw[c1l]
 refine wpS_bind (wpS_get ?_)
 rw[p1,p2]
 dsimp only
 refine wpS_bind (a1m ?_)
 refine wpS_bind (b0e (Array.getElem?_eq_getElem y0) ?_)
 refine wpS_bind (j0t C (st:=SortSt.mk' _ _ _ _ _) hk (hP _ (by simp)) hP (by omega) (fun i j ij hj=>?_) (by omega) fun k k1 k2 k3=>?_)
 ·obtain⟨q1,e1⟩:=g0v lx (i:=i) (by omega)
  obtain⟨q2,e2⟩:=g0v lx (i:=j) (by omega)
  rw[e1,e2];exact srtL sx ij hj
 dsimp only
 have xlo:∀x∈X.take k,r x<=r Y[0]:=fun x hx=>by
  obtain⟨j,hj,rfl⟩:=List.getElem_of_mem hx
  rw[List.length_take]at hj
  rw[List.getElem_take]
  obtain⟨q,e⟩:=g0v lx (i:=j) (by omega)
  have:=k2 j (by omega) q
  rw[e,ey0]at this
  unfold bT at this;simp at this;exact this
 have xhi:∀x∈X.drop k,r Y[0]<r x:=fun x hx=>by
  obtain⟨j,hj,rfl⟩:=List.getElem_of_mem hx
  rw[List.length_drop]at hj
  rw[List.getElem_drop]
  obtain⟨q,e⟩:=g0v lx (i:=k+j) (by omega)
  have:=k3 (k+j) (by omega) (by omega) q
  rw[e,ey0]at this
  unfold bT at this;simp at this;exact this
 have ymin:∀y∈Y,r Y[0]<=r y:=fun y hy=>by
  obtain⟨j,hj,rfl⟩:=List.getElem_of_mem hy
  exact srtL sy (Nat.zero_le _) hj
 have sX:=List.pairwise_append.mp (show Srt r (X.take k++X.drop k)by rw[List.take_append_drop];exact sx)
 by_cases e1:X.length - k=0
 ·rw[if_pos (by simpa using e1)]
  have ek:X.take k=X:=List.take_of_length_le (by omega)
  refine wpS_pure ?_
  have:=h (X++Y) (arrOf st) (gallopOf st) (List.Perm.refl _) (List.pairwise_append.mpr ⟨sx,sy,fun x hx y hy=>Int.le_trans (xlo x (by rw[ek];exact hx)) (ymin y hy)⟩) (by rw[hl];simp)
  rw[<- hk,<- hf]at this
  exact this
 rw[if_neg (by simpa using e1)]
 have lastlt:pre.length+k+(X.length - k) - 1<(arrOf st).size:=by omega
 refine wpS_bind (b0e (Array.getElem?_eq_getElem lastlt) ?_)
 have elast:(arrOf st)[pre.length+k+(X.length - k) - 1]=X[X.length - 1]:=by
  obtain⟨q,e⟩:=g0v lx (i:=X.length - 1) (by omega)
  rw[<- e];congr 1;omega
 refine wpS_bind (j0t C (st:=SortSt.mk' _ _ _ _ _) hk (hP _ (by simp)) hP (by omega) (fun i j ij hj=>?_) (by omega) fun l l1 l2 l3=>?_)
 ·obtain⟨q1,e1⟩:=aty i (by omega)
  obtain⟨q2,e2⟩:=aty j (by omega)
  rw[e1,e2];exact srtL sy ij hj
 dsimp only
 have ylo:∀y∈Y.take l,r y<r X[X.length - 1]:=fun x hx=>by
  obtain⟨j,hj,rfl⟩:=List.getElem_of_mem hx
  rw[List.length_take]at hj
  rw[List.getElem_take]
  obtain⟨q,e⟩:=aty j (by omega)
  have:=l2 j (by omega) q
  rw[e,elast]at this
  unfold bT at this;simp at this;exact this
 have yhi:∀y∈Y.drop l,r X[X.length - 1]<=r y:=fun x hx=>by
  obtain⟨j,hj,rfl⟩:=List.getElem_of_mem hx
  rw[List.length_drop]at hj
  rw[List.getElem_drop]
  obtain⟨q,e⟩:=aty (l+j) (by omega)
  have:=l3 (l+j) (by omega) (by omega) q
  rw[e,elast]at this
  unfold bT at this;simp at this;exact this
 have xmax:∀x∈X,r x<=r X[X.length - 1]:=fun y hy=>by
  obtain⟨j,hj,rfl⟩:=List.getElem_of_mem hy
  exact srtL sx (by omega) (by omega)
 have sY:=List.pairwise_append.mp (show Srt r (Y.take l++Y.drop l)by rw[List.take_append_drop];exact sy)
 by_cases e2:l=0
 ·rw[if_pos (by simpa using e2)]
  refine wpS_pure ?_
  have:=h (X++Y) (arrOf st) (gallopOf st) (List.Perm.refl _) (List.pairwise_append.mpr ⟨sx,sy,fun x hx y hy=>Int.le_trans (xmax x hx) (yhi y (by rw[e2];exact hy))⟩) (by rw[hl];simp)
  rw[<- hk,<- hf]at this
  exact this
 rw[if_neg (by simpa using e2)]
 have l3':(arrOf st).toList=(pre++X.take k)++X.drop k++(Y++post):=lx.trans (cut3 _ _ _ k)
 have l4':(arrOf st).toList=(pre++X)++Y.take l++(Y.drop l++post):=(ly.trans (cut3 _ _ _ l)).trans (List.append_assoc _ _ _)
 have ex:((arrOf st).extract (pre.length+k) (pre.length+X.length)).toList=X.drop k:=u0n l3' (by simp;omega) (by simp;omega)
 have ey:((arrOf st).extract (pre.length+X.length) (pre.length+X.length+l)).toList=Y.take l:=u0n l4' (by simp) (by simp;omega)
 have sx':((arrOf st).extract (pre.length+k) (pre.length+X.length)).size=X.length - k:=by rw[<- Array.length_toList,ex];simp
 have sy':((arrOf st).extract (pre.length+X.length) (pre.length+X.length+l)).size=l:=by rw[<- Array.length_toList,ey];simp;omega
 have t:Two r P ((arrOf st).extract (pre.length+k) (pre.length+X.length)) ((arrOf st).extract (pre.length+X.length) (pre.length+X.length+l)):=by
  refine⟨fun x hx=>?_,fun x hx=>?_,by rw[ex];exact sX.2.1,by rw[ey];exact sY.1,fun q x hx=>?_,fun q x hx=>?_⟩
  ·rw[ex]at hx;exact hP _ (by rw[lx];simp[List.mem_of_mem_drop hx])
  ·rw[ey]at hx;exact hP _ (by rw[ly];simp[List.mem_of_mem_take hx])
  ·rw[ey]at hx
   have:=ylo x hx
   rw[Array.getElem_extract]
   obtain⟨q2,e⟩:=g0v lx (i:=X.length - 1) (by omega)
   have:(arrOf st)[pre.length+k+(((arrOf st).extract (pre.length+k) (pre.length+X.length)).size - 1)]'(by omega)=X[X.length - 1]:=by
    rw[<- e];congr 1;omega
   rw[this];exact ylo x hx
  ·rw[ex]at hx
   rw[Array.getElem_extract]
   simp only[Nat.add_zero]
   rw[ey0];exact xhi x hx
 have fin:∀z g,Res r (((arrOf st).extract (pre.length+k) (pre.length+X.length)).toList++((arrOf st).extract (pre.length+X.length) (pre.length+X.length+l)).toList) z ->
   Q true (SortSt.mk' κ (wr (arrOf st) (pre.length+k) z.toList) (((pendingOf st).setIfInBounds i (pre.length,X.length+Y.length,w)).eraseIdxIfInBounds (i+1)) g none):=by
  rintro z g ⟨zp,zs⟩
  rw[ex,ey]at zp
  have zl:(X.drop k++Y.take l).length=z.toList.length:=zp.length_eq.symm
  have lw:=y0c (a:=arrOf st) (u:=pre++X.take k) (v:=X.drop k++Y.take l) (w:=Y.drop l++post) (m:=z.toList) (by
   have e5:=cut3 pre X (Y.take l++(Y.drop l++post)) k
   rw[l4'];rw[List.append_assoc,e5];simp only[List.append_assoc]) zl
  have ul:(pre++X.take k).length=pre.length+k:=by simp;omega
  rw[ul]at lw
  have mem:∀y∈z.toList,y∈X.drop k∨y∈Y.take l:=fun y hy=>List.mem_append.mp (zp.mem_iff.mp hy)
  refine h (X.take k++z.toList++Y.drop l) _ g ?_ ?_ (by rw[lw];simp)
  ·have e3:X++Y=X.take k++(X.drop k++Y.take l)++Y.drop l:=by
    have e6:=cut3 [] X Y k
    have e7:=cut3 (X.take k++X.drop k) Y [] l
    simp only[List.nil_append,List.append_nil]at e6 e7
    rw[e6,e7];simp only[List.append_assoc]
   rw[e3]
   exact List.Perm.append_right _ (List.Perm.append_left _ zp)
  ·refine List.pairwise_append.mpr ⟨List.pairwise_append.mpr ⟨sX.1,zs,fun x hx y hy=>?_⟩,sY.2.1,fun x hx y hy=>?_⟩
   ·rcases mem y hy with q | q
    ·exact sX.2.2 x hx y q
    ·exact Int.le_trans (xlo x hx) (ymin y (List.mem_of_mem_take q))
   ·rcases List.mem_append.mp hx with q | q
    ·exact Int.le_trans (xmax x (List.mem_of_mem_take q)) (yhi y hy)
    ·rcases mem x q with q | q
     ·exact Int.le_trans (xmax x (List.mem_of_mem_drop q)) (yhi y hy)
     ·exact sY.2.2 x q y hy
 have last:∀z g,Res r (((arrOf st).extract (pre.length+k) (pre.length+X.length)).toList++((arrOf st).extract (pre.length+X.length) (pre.length+X.length+l)).toList) z ->
   Q (failedOf st).isNone (SortSt.mk' (kindOf st) (wr (arrOf st) (pre.length+k) z.toList) (((pendingOf st).setIfInBounds i (pre.length,X.length+Y.length,w)).eraseIdxIfInBounds (i+1)) g (failedOf st)):=fun z g hz=>by
  rw[hf,hk];exact fin z g hz
 split
 ·refine wpS_bind (a1n C t ?_ (by omega) (by omega) fun z g hz=>?_)
  ·exact hk
  exact wpS_bind (wpS_modify (wpS_bind (wpS_get (wpS_pure (last z g hz)))))
 ·refine wpS_bind (a1o C t ?_ (by omega) (by omega) fun z g hz=>?_)
  ·exact hk
  exact wpS_bind (wpS_modify (wpS_bind (wpS_get (wpS_pure (last z g hz)))))
end
def kr (r:Keyed->Int)(xs:Array Keyed)(i:Nat):Int:=(xs[i]?.map r).getD 0
theorem t0x {r:Keyed->Int}{xs ys:Array Keyed}{i j:Nat}(h:xs[i]? = ys[j]?):kr r xs i=kr r ys j:=by unfold kr;rw[h]
theorem x0p {r:Keyed->Int}{xs:Array Keyed}{c d:Nat}(hs:c<xs.size)(hd:d<=c)(k:Nat) :
  kr r (bubble xs c d) k=if k=c - d then kr r xs c else if c - d<k/\k<=c then kr r xs (k - 1)else kr r xs k:=by
 have e:=getElem?_bubble hs d hd k
 split
 ·rename_i g;rw[if_pos g]at e;exact t0x e
 ·rename_i g;rw[if_neg g]at e
  split
  ·rename_i g';rw[if_pos g']at e;exact t0x e
  ·rename_i g';rw[if_neg g']at e;exact t0x e
theorem t0w {r:Keyed->Int}{xs:Array Keyed}{i j:Nat}(hj:j<=xs.size)(k:Nat):kr r (mirror xs i j ((j - i) / 2)) k=if i<=k/\k<j then kr r xs (i+j - 1 - k)else kr r xs k:=by
 have e:=getElem?_mirror_all (i:=i) hj k
 split
 ·rename_i g;rw[if_pos g]at e;exact t0x e
 ·rename_i g;rw[if_neg g]at e;exact t0x e
theorem f0z {r:Keyed->Int}{xs:Array Keyed}{i j:Nat}(hj:j<=xs.size){v:Int}(hv:∀k,i<=k->k<j->kr r xs k=v)(k:Nat):kr r (mirror xs i j ((j - i) / 2)) k=kr r xs k:=by
 rw[t0w hj]
 split
 ·rename_i g;rw[hv _ (by omega) (by omega),hv k g.1 g.2]
 ·rfl
structure Bs (st0:SortSt)(lo:Nat)(st:SortSt):Prop where
 eq:st=setArr st0 (arrOf st)
 pm:(arrOf st).Perm (arrOf st0)
 ah:∀i,i<lo->(arrOf st)[i]? = (arrOf st0)[i]?
theorem Bs.sz {st0 st:SortSt}{lo:Nat}(b:Bs st0 lo st):(arrOf st).size=(arrOf st0).size:=b.pm.size_eq
theorem Bs.start (st:SortSt)(lo:Nat):Bs st lo st:=⟨rfl,Array.Perm.refl _,fun _ _=>rfl⟩
theorem Bs.mir {st0 st:SortSt}{lo i j:Nat}(b:Bs st0 lo st)(hi:lo<=i)(hj:j<=(arrOf st0).size):Bs st0 lo (setArr st (mirror (arrOf st) i j ((j - i) / 2))):=by
 refine⟨by rw[b.eq],(mirror_perm _ _ _ _).trans b.pm,fun k hk=>?_⟩
 show(mirror (arrOf st) i j ((j - i) / 2))[k]? = _
 rw[getElem?_mirror_all (by rw[b.sz];exact hj),if_neg (by omega)]
 exact b.ah k hk
theorem Bs.bub {st0 st:SortSt}{lo c d:Nat}(b:Bs st0 lo st)(hc:c<(arrOf st0).size)(hd:d<=c)(hl:lo<=c - d):Bs st0 lo (setArr st (bubble (arrOf st) c d)):=by
 refine⟨by rw[b.eq],(bubble_perm _ _ _).trans b.pm,fun k hk=>?_⟩
 show(bubble (arrOf st) c d)[k]? = _
 rw[getElem?_bubble (by rw[b.sz];exact hc) d hd,if_neg (by omega),if_neg (by omega)]
 exact b.ah k hk
def Up (r:Keyed->Int)(xs:Array Keyed)(lo n:Nat):Prop:=∀i j,i<=j->j<n->kr r xs (lo+i)<=kr r xs (lo+j)
def Dw (r:Keyed->Int)(xs:Array Keyed)(lo n:Nat):Prop:=∀i j,i<=j->j<n->kr r xs (lo+j)<=kr r xs (lo+i)
theorem Up.one {r:Keyed->Int}{xs:Array Keyed}{lo:Nat}:Up r xs lo 1:=fun i j h1 h2=>by
 have:i=j:=by omega
 subst this;exact Int.le_refl _
theorem Up.more {r:Keyed->Int}{xs:Array Keyed}{lo n:Nat}(u:Up r xs lo n)(h1:1<=n)(h:kr r xs (lo+(n - 1))<=kr r xs (lo+n)):Up r xs lo (n+1):=fun i j a b=>by
 rcases Nat.lt_or_ge j n with q | q
 ·exact u i j a q
 ·have e:j=n:=by omega
  subst e
  rcases Nat.lt_or_ge i j with z | z
  ·exact Int.le_trans (u i (j - 1) (by omega) (by omega)) h
  ·have:i=j:=by omega
   subst this;exact Int.le_refl _
theorem Dw.more {r:Keyed->Int}{xs:Array Keyed}{lo n:Nat}(u:Dw r xs lo n)(h1:1<=n)(h:kr r xs (lo+n)<=kr r xs (lo+(n - 1))):Dw r xs lo (n+1):=fun i j a b=>by
 rcases Nat.lt_or_ge j n with q | q
 ·exact u i j a q
 ·have e:j=n:=by omega
  subst e
  rcases Nat.lt_or_ge i j with z | z
  ·exact Int.le_trans h (u i (j - 1) (by omega) (by omega))
  ·have:i=j:=by omega
   subst this;exact Int.le_refl _
theorem Dw.cg {r:Keyed->Int}{xs ys:Array Keyed}{lo n:Nat}(u:Dw r xs lo n)(h:∀k,kr r ys k=kr r xs k):Dw r ys lo n:=fun i j a b=>by rw[h,h];exact u i j a b
section
variable {M:Model}{A:Around}{E:Value->Shared->Prop}{s:Shared}{κ:SortKind}{r:Keyed->Int}{P:Keyed->Prop}{st0:SortSt}
theorem m0g (C:Cm M A E s κ r P)(hk:kindOf st0=κ)(hP:∀x∈(arrOf st0).toList,P x){st:SortSt}{lo i j:Nat}(b:Bs st0 lo st)(hi:i<(arrOf st0).size)(hj:j<(arrOf st0).size){Q:Option Bool->SortSt->Prop}
  (h:Q (some (decide (kr r (arrOf st) i<kr r (arrOf st) j))) st):wpS M A E s (ltAt' i j) Q st:=by
 have zi:i<(arrOf st).size:=by rw[b.sz];exact hi
 have zj:j<(arrOf st).size:=by rw[b.sz];exact hj
 have pp:∀(k:Nat) (z:k<(arrOf st).size),P (arrOf st)[k]:=fun k z=>hP _ ((Array.perm_iff_toList_perm.mp b.pm).mem_iff.mp (by simp))
 rw[ltAt'_eq]
 refine wpS_bind (wpS_get (wpS_bind (b0e (Array.getElem?_eq_getElem zi) (wpS_bind (b0e (Array.getElem?_eq_getElem zj) ?_)))))
 refine C.lt _ _ (pp i zi) (pp j zj) _ _ (by rw[b.eq];exact hk) ?_
 unfold kr at h
 rw[Array.getElem?_eq_getElem zi,Array.getElem?_eq_getElem zj]at h
 exact h
theorem a1v (C:Cm M A E s κ r P)(hk:kindOf st0=κ)(hP:∀x∈(arrOf st0).toList,P x){st:SortSt}{lo n ok:Nat}{Q:Bool->SortSt->Prop}(hn:lo+n<=(arrOf st0).size)(ho:ok<=n)(h1:1<=n)(b:Bs st0 lo st)(u:Up r (arrOf st) lo ok)
  (h:∀st',Bs st0 lo st'->Up r (arrOf st') lo n->Q true st'):wpS M A E s (binarySort' lo n ok) Q st:=by
 rw[binarySort'_eq]
 refine wpS_bind (wpS_mono (wpS_forRange (I:=fun k c st'=>c=(none,())/\Bs st0 lo st'/\Up r (arrOf st') lo k) (Q:=fun c st'=>c=(none,())/\Bs st0 lo st'/\Up r (arrOf st') lo n) ?_ ?_ ⟨rfl,b,?_⟩) ?_)
 ·rintro k c st2 a1 a2 ⟨rfl,b2,u2⟩
  refine wpS_bind (wpS_mono (wpS_forRange (I:=fun x c st3=>st3=st2/\∃p q,c=(none,p,q)/\p<=q/\q<=k/\q - p<=k - x/\(∀i,i<p->kr r (arrOf st2) (lo+i)<=kr r (arrOf st2) (lo+k))/\(∀i,q<=i->i<k->kr r (arrOf st2) (lo+k)<kr r (arrOf st2) (lo+i)))
   (Q:=fun c st3=>st3=st2/\∃p,c=(none,p,p)/\p<=k/\(∀i,i<p->kr r (arrOf st2) (lo+i)<=kr r (arrOf st2) (lo+k))/\(∀i,p<=i->i<k->kr r (arrOf st2) (lo+k)<kr r (arrOf st2) (lo+i))) ?_ ?_ ⟨rfl,0,k,rfl,by omega,by omega,by omega,fun i hi=>by omega,fun i c d=>by omega⟩) ?_)
  ·rintro x c st3 _ hx ⟨rfl,p,q,rfl,e1,e2,e3,e4,e5⟩
   dsimp only
   by_cases g:p>=q
   ·rw[if_pos g]
    have:p=q:=by omega
    subst this
    exact wpS_pure ⟨rfl,p,rfl,e2,e4,e5⟩
   ·rw[if_neg g]
    refine wpS_bind (m0g C hk hP b2 (by omega) (by omega) ?_)
    by_cases z:kr r (arrOf st3) (lo+k)<kr r (arrOf st3) (lo+(p+q) / 2)
    ·simp only[z,decide_true,if_true]
     exact wpS_pure ⟨rfl,p,(p+q) / 2,rfl,by omega,by omega,by omega,e4,fun i c d=>Int.lt_of_lt_of_le z (u2 _ _ c d)⟩
    ·simp only[z,decide_false,Bool.false_eq_true,if_false]
     exact wpS_pure ⟨rfl,(p+q) / 2+1,q,rfl,by omega,by omega,by omega,fun i c=>Int.le_trans (u2 i ((p+q) / 2) (by omega) (by omega)) (by omega),e5⟩
  ·rintro c st3 ⟨rfl,p,q,rfl,e1,e2,e3,e4,e5⟩
   have:p=q:=by omega
   subst this
   exact⟨rfl,p,rfl,e2,e4,e5⟩
  ·rintro c st3 ⟨rfl,p,rfl,e2,e4,e5⟩
   dsimp only
   rw[moveDown'_eq]
   have hks:lo+k<(arrOf st3).size:=by rw[b2.sz];omega
   refine wpS_bind (wpS_modify (wpS_pure ⟨rfl,b2.bub (by omega) (by omega) (by omega),?_⟩))
   intro i j ij hj
   show kr r (bubble (arrOf st3) (lo+k) (lo+k - (lo+p))) (lo+i)<=kr r (bubble (arrOf st3) (lo+k) (lo+k - (lo+p))) (lo+j)
   rw[x0p hks (by omega),x0p hks (by omega)]
   have s1:∀x,lo+x - 1=lo+(x - 1)∨x=0:=fun x=>by omega
   have lt1:∀x,x<p->kr r (arrOf st3) (lo+x)<=kr r (arrOf st3) (lo+k):=e4
   have em:∀x,1<=x->kr r (arrOf st3) (lo+x - 1)=kr r (arrOf st3) (lo+(x - 1)):=fun x hx=>by rw[show lo+x - 1=lo+(x - 1)by omega]
   repeat' split
   all_goals first
    | (exfalso;omega)
    | exact Int.le_refl _
    | exact e4 _ (by omega)
    | (rw[em _ (by omega)];exact Int.le_of_lt (e5 _ (by omega) (by omega)))
    | (rw[em _ (by omega),em _ (by omega)];exact u2 _ _ (by omega) (by omega))
    | (rw[em _ (by omega)];exact u2 _ _ (by omega) (by omega))
    | exact u2 _ _ (by omega) (by omega)
 ·rintro c st2 ⟨hc,b2,u2⟩
  refine⟨hc,b2,fun i j a c=>u2 i j a (by omega)⟩
 ·intro i j a c
  rcases Nat.lt_or_ge j ok with q | q
  ·exact u i j a q
  ·have:i=j:=by omega
   subst this;exact Int.le_refl _
 ·rintro c st2 ⟨rfl,b2,u2⟩
  exact wpS_pure (h _ b2 u2)
def asc (lo a m:Nat):StateT SortSt Sem AscSt :=
 forIn [a:m] ((none,a):AscSt) fun _ c=>do
  let z <- ltAt' (lo+c.2) (lo+c.2 - 1)
  match z with
  | some y=>if y=true then pure (.done (none,c.2))else pure (.yield (none,c.2+1))
  | _=>pure (.done (some none,c.2))
def tl3 (lo n m:Nat):StateT SortSt Sem (Option Nat):=do
 reverseSlice' lo (lo+n)
 let c <- asc lo n m
 match c.1 with
 | some q=>pure q
 | none=>pure (some c.2)
def dsc (lo n m:Nat):StateT SortSt Sem DescSt :=
 forIn [n:m] ((none,n,0):DescSt) fun _ c=>do
  let z <- ltAt' (lo+c.2.1) (lo+c.2.1 - 1)
  match z with
  | some y =>
   if y=true then
    if c.2.2 > 0 then do
     reverseSlice' (lo+c.2.1 - (c.2.2+1)) (lo+c.2.1)
     pure (.yield (none,c.2.1+1,0))
    else pure (.yield (none,c.2.1+1,0))
   else do
    let z <- ltAt' (lo+c.2.1 - 1) (lo+c.2.1)
    match z with
    | some y=>if y=true then pure (.done (none,c.2.1,c.2.2))else pure (.yield (none,c.2.1+1,c.2.2+1))
    | _=>pure (.done (some none,c.2.1,c.2.2))
  | _=>pure (.done (some none,c.2.1,c.2.2))
def dpt (lo n m:Nat):StateT SortSt Sem (Option Nat):=do
 liftM (rule "list.sort.descending-run")
 let c <- dsc lo (n+1) m
 match c.1 with
 | some q=>pure q
 | none =>
  if c.2.2 > 0 then do
   reverseSlice' (lo+c.2.1 - (c.2.2+1)) (lo+c.2.1)
   tl3 lo c.2.1 m
  else tl3 lo c.2.1 m
theorem e1a (lo m:Nat):countRun' lo m=(do
  let c <- asc lo 1 m
  match c.1 with
  | some q=>pure q
  | none =>
   if(c.2==m)=true then pure (some c.2)
   else if c.2 > 1 then do
    let z <- ltAt' lo (lo+c.2 - 1)
    match z with
    | some y=>if y=true then pure (some c.2)else do
      reverseSlice' lo (lo+c.2)
      dpt lo c.2 m
    | _=>pure none
   else dpt lo c.2 m):=by
 rw[countRun'_eq]
 dsimp only
 unfold dpt tl3 dsc asc
 congr 1
 funext c
 obtain⟨q,n⟩:=c
 cases q with
 | some q=>rfl
 | none =>
  dsimp only
  split
  ·rfl
  ·split
   ·congr 1
    funext x
    cases x with
    | none=>rfl
    | some y =>
     dsimp only
     split
     ·rfl
     ·congr 1
      funext _
      congr 1;funext _;congr 1;congr 1;funext c;obtain⟨q,n,k⟩:=c
      cases q with
      | some q=>rfl
      | none =>
       dsimp only
       split
       ·congr 1;funext _;congr 1;funext _;congr 1;funext c;obtain⟨q,n⟩:=c;cases q <;> rfl
       ·congr 1;funext _;congr 1;funext c;obtain⟨q,n⟩:=c;cases q <;> rfl
   ·congr 1;funext _;congr 1;congr 1;funext c;obtain⟨q,n,k⟩:=c
    cases q with
    | some q=>rfl
    | none =>
     dsimp only
     split
     ·congr 1;funext _;congr 1;funext _;congr 1;funext c;obtain⟨q,n⟩:=c;cases q <;> rfl
     ·congr 1;funext _;congr 1;funext c;obtain⟨q,n⟩:=c;cases q <;> rfl
theorem x0f (C:Cm M A E s κ r P)(hk:kindOf st0=κ)(hP:∀x∈(arrOf st0).toList,P x){st:SortSt}{lo a m:Nat}{Q:AscSt->SortSt->Prop}(hm:lo+m<=(arrOf st0).size)(ha:1<=a)(am:a<=m)(b:Bs st0 lo st)(u:Up r (arrOf st) lo a)
  (h:∀n,a<=n->n<=m->Up r (arrOf st) lo n->(n=m∨kr r (arrOf st) (lo+n)<kr r (arrOf st) (lo+n - 1))->Q (none,n) st):wpS M A E s (asc lo a m) Q st:=by
 unfold asc
 refine wpS_forRange (I:=fun x c st'=>st'=st/\c=(none,x)/\Up r (arrOf st) lo x) ?_ ?_ ⟨rfl,rfl,u⟩
 ·rintro x c st2 a1 a2 ⟨rfl,rfl,u2⟩
  dsimp only
  refine wpS_bind (m0g C hk hP b (by omega) (by omega) ?_)
  by_cases z:kr r (arrOf st2) (lo+x)<kr r (arrOf st2) (lo+x - 1)
  ·simp only[z,decide_true,if_true]
   exact wpS_pure (h x a1 (by omega) u2 (.inr z))
  ·simp only[z,decide_false,Bool.false_eq_true,if_false]
   refine wpS_pure ⟨rfl,rfl,u2.more (by omega) ?_⟩
   rw[show lo+(x - 1)=lo+x - 1 by omega];omega
 ·rintro c st2 ⟨rfl,rfl,u2⟩
  rw[show max a m=m by omega]at u2 ⊢
  exact h m am (Nat.le_refl _) u2 (.inl rfl)
theorem w0w (C:Cm M A E s κ r P)(hk:kindOf st0=κ)(hP:∀x∈(arrOf st0).toList,P x){st:SortSt}{lo n m:Nat}{Q:Option Nat->SortSt->Prop}(hm:lo+m<=(arrOf st0).size)(h1:1<=n)(nm:n<=m)(b:Bs st0 lo st)(u:Dw r (arrOf st) lo n)
  (h:∀k st',Bs st0 lo st'->1<=k->k<=m->Up r (arrOf st') lo k->Q (some k) st'):wpS M A E s (tl3 lo n m) Q st:=by
 unfold tl3
 rw[reverseSlice'_eq]
 have b2:=b.mir (i:=lo) (j:=lo+n) (Nat.le_refl _) (by omega)
 refine wpS_bind (wpS_modify (wpS_bind (x0f C hk hP hm h1 nm b2 (fun i j ij hj=>?_) fun k k1 k2 k3 _=>wpS_pure (h k _ b2 (by omega) k2 k3))))
 show kr r (mirror (arrOf st) lo (lo+n) ((lo+n - lo) / 2)) (lo+i)<=kr r (mirror (arrOf st) lo (lo+n) ((lo+n - lo) / 2)) (lo+j)
 have hz:lo+n<=(arrOf st).size:=by rw[b.sz];omega
 rw[t0w hz,t0w hz,if_pos (by omega),if_pos (by omega),show lo+(lo+n) - 1 - (lo+i)=lo+(n - 1 - i)by omega,show lo+(lo+n) - 1 - (lo+j)=lo+(n - 1 - j)by omega]
 exact u _ _ (by omega) (by omega)
theorem a1u (C:Cm M A E s κ r P)(hk:kindOf st0=κ)(hP:∀x∈(arrOf st0).toList,P x){st:SortSt}{lo n m:Nat}{Q:DescSt->SortSt->Prop}(hm:lo+m<=(arrOf st0).size)(h1:1<=n)(nm:n<=m)(b:Bs st0 lo st)(u:Dw r (arrOf st) lo n)
  (h:∀k e st',Bs st0 lo st'->n<=k->k<=m->Dw r (arrOf st') lo k->e+1<=k->(∀i,k - (e+1)<=i->i<k->kr r (arrOf st') (lo+i)=kr r (arrOf st') (lo+k - 1))->Q (none,k,e) st'):wpS M A E s (dsc lo n m) Q st:=by
 unfold dsc
 refine wpS_forRange (I:=fun x c st'=>∃e,c=(none,x,e)/\Bs st0 lo st'/\Dw r (arrOf st') lo x/\e+1<=x/\(∀i,x - (e+1)<=i->i<x->kr r (arrOf st') (lo+i)=kr r (arrOf st') (lo+x - 1))) ?_ ?_ ⟨0,rfl,b,u,by omega,fun i a c=>by congr 1;omega⟩
 ·rintro x c st2 a1 a2 ⟨e,rfl,b2,u2,e1,e2⟩
  dsimp only
  have hz:lo+x<=(arrOf st2).size:=by rw[b2.sz];omega
  refine wpS_bind (m0g C hk hP b2 (by omega) (by omega) ?_)
  have e3:∀k,lo+x - (e+1)<=k->k<lo+x->kr r (arrOf st2) k=kr r (arrOf st2) (lo+x - 1):=fun k p q=>by
   have:=e2 (k - lo) (by omega) (by omega)
   rwa [show lo+(k - lo)=k by omega]at this
  by_cases z:kr r (arrOf st2) (lo+x)<kr r (arrOf st2) (lo+x - 1)
  ·simp only[z,decide_true,if_true]
   have u3:Dw r (arrOf st2) lo (x+1):=u2.more (by omega) (by rw[show lo+(x - 1)=lo+x - 1 by omega];omega)
   by_cases g:e > 0
   ·rw[if_pos g,reverseSlice'_eq]
    exact wpS_bind (wpS_modify (wpS_pure ⟨0,rfl,b2.mir (by omega) (by omega),u3.cg (f0z hz e3),by omega,fun i p q=>by congr 1;omega⟩))
   ·rw[if_neg g]
    exact wpS_pure ⟨0,rfl,b2,u3,by omega,fun i p q=>by congr 1;omega⟩
  ·simp only[z,decide_false,Bool.false_eq_true,if_false]
   refine wpS_bind (m0g C hk hP b2 (by omega) (by omega) ?_)
   by_cases y:kr r (arrOf st2) (lo+x - 1)<kr r (arrOf st2) (lo+x)
   ·simp only[y,decide_true,if_true]
    exact wpS_pure (h x e st2 b2 a1 (by omega) u2 e1 e2)
   ·simp only[y,decide_false,Bool.false_eq_true,if_false]
    refine wpS_pure ⟨e+1,rfl,b2,u2.more (by omega) (by rw[show lo+(x - 1)=lo+x - 1 by omega];omega),by omega,fun i p q=>?_⟩
    rw[show lo+(x+1) - 1=lo+x by omega]
    rcases Nat.lt_or_ge i x with w | w
    ·have:=e2 i (by omega) w
     omega
    ·have:i=x:=by omega
     subst this;rfl
 ·rintro c st2 ⟨e,rfl,b2,u2,e1,e2⟩
  rw[show max n m=m by omega]at u2 e1 e2 ⊢
  exact h m e st2 b2 nm (Nat.le_refl _) u2 e1 e2
theorem x0e (C:Cm M A E s κ r P)(hk:kindOf st0=κ)(hP:∀x∈(arrOf st0).toList,P x){st:SortSt}{lo n m:Nat}{Q:Option Nat->SortSt->Prop}(hm:lo+m<=(arrOf st0).size)(nm:n+1<=m)(b:Bs st0 lo st)(u:Dw r (arrOf st) lo (n+1))
  (h:∀k st',Bs st0 lo st'->1<=k->k<=m->Up r (arrOf st') lo k->Q (some k) st'):wpS M A E s (dpt lo n m) Q st:=by
 unfold dpt
 refine wpS_bind (wpS_lift (wpAny_rule ⟨rfl,?_⟩))
 refine wpS_bind (a1u C hk hP hm (by omega) nm b u fun k e st2 b2 k1 k2 u2 e1 e2=>?_)
 dsimp only
 have hz:lo+k<=(arrOf st2).size:=by rw[b2.sz];omega
 have e3:∀i,lo+k - (e+1)<=i->i<lo+k->kr r (arrOf st2) i=kr r (arrOf st2) (lo+k - 1):=fun i p q=>by
  have:=e2 (i - lo) (by omega) (by omega)
  rwa [show lo+(i - lo)=i by omega]at this
 by_cases g:e > 0
 ·rw[if_pos g,reverseSlice'_eq]
  exact wpS_bind (wpS_modify (w0w C hk hP hm (by omega) k2 (b2.mir (by omega) (by omega)) (u2.cg (f0z hz e3)) h))
 ·rw[if_neg g]
  exact w0w C hk hP hm (by omega) k2 b2 u2 h
theorem d1m (C:Cm M A E s κ r P)(hk:kindOf st0=κ)(hP:∀x∈(arrOf st0).toList,P x){st:SortSt}{lo m:Nat}{Q:Option Nat->SortSt->Prop}(hm:lo+m<=(arrOf st0).size)(h1:1<=m)(b:Bs st0 lo st)
  (h:∀k st',Bs st0 lo st'->1<=k->k<=m->Up r (arrOf st') lo k->Q (some k) st'):wpS M A E s (countRun' lo m) Q st:=by
 rw[e1a]
 refine wpS_bind (x0f C hk hP hm (Nat.le_refl 1) h1 b Up.one fun n n1 n2 u hor=>?_)
 dsimp only
 by_cases g:n=m
 ·rw[if_pos (by simpa using g)]
  exact wpS_pure (h n st b n1 n2 u)
 ·rw[if_neg (by simpa using g)]
  have hlt:=hor.resolve_left g
  have hz:lo+n<=(arrOf st).size:=by rw[b.sz];omega
  by_cases g2:n > 1
  ·rw[if_pos g2]
   refine wpS_bind (m0g C hk hP b (by omega) (by omega) ?_)
   by_cases z:kr r (arrOf st) lo<kr r (arrOf st) (lo+n - 1)
   ·simp only[z,decide_true,if_true]
    exact wpS_pure (h n st b n1 n2 u)
   ·simp only[z,decide_false,Bool.false_eq_true,if_false]
    have all:∀k,lo<=k->k<lo+n->kr r (arrOf st) k=kr r (arrOf st) lo:=fun k p q=>by
     have e1:=u 0 (k - lo) (by omega) (by omega)
     have e2:=u (k - lo) (n - 1) (by omega) (by omega)
     rw[show lo+(k - lo)=k by omega]at e1 e2
     rw[show lo+(n - 1)=lo+n - 1 by omega]at e2
     rw[Nat.add_zero]at e1
     omega
    have d:Dw r (arrOf st) lo n:=fun i j ij hj=>by rw[all _ (by omega) (by omega),all (lo+i) (by omega) (by omega)];exact Int.le_refl _
    rw[reverseSlice'_eq]
    refine wpS_bind (wpS_modify (x0e C hk hP hm (by omega) (b.mir (by omega) (by omega)) ((d.more (by omega) ?_).cg (f0z hz all)) h))
    rw[show lo+(n - 1)=lo+n - 1 by omega];omega
  ·rw[if_neg g2]
   have:n=1:=by omega
   subst this
   refine x0e C hk hP hm (by omega) b (Dw.more (fun i j ij hj=>?_) (by omega) ?_) h
   ·have:i=j:=by omega
    subst this;exact Int.le_refl _
   ·rw[show lo+(1 - 1)=lo+1 - 1 by omega];omega
end
def Pn (r:Keyed->Int):Nat->List (Nat×Nat×Nat)->List (List Keyed)->Prop
 | _,[],[]=>True
 | b,p::ps,X::Xs=>p.1=b/\p.2.1=X.length/\0<X.length/\Srt r X/\Pn r (b+X.length) ps Xs
 | _,_,_=>False
theorem Pn.len {r:Keyed->Int}:∀ {b ps Xs},Pn r b ps Xs->ps.length=Xs.length/\Xs.length<=Xs.flatten.length
 | _,[],[],_=>⟨rfl,Nat.le_refl _⟩
 | _,p::ps,X::Xs,h=>by
  have:=Pn.len h.2.2.2.2
  simp only[List.length_cons,List.flatten_cons,List.length_append]
  have:=h.2.2.1
  omega
 | _,[],_::_,h=>h.elim
 | _,_::_,[],h=>h.elim
theorem Pn.two {r:Keyed->Int}:∀ {i b ps Xs u n w v m w'},Pn r b ps Xs->ps[i]? = some (u,n,w)->ps[i+1]? = some (v,m,w') ->
  ∃A X Y B,Xs=A++X::Y::B/\u=b+A.flatten.length/\n=X.length/\v=u+X.length/\m=Y.length/\Srt r X/\Srt r Y/\0<X.length/\0<Y.length /\
   ∀Z,Srt r Z->Z.length=n+m->Pn r b ((ps.set i (u,n+m,w)).eraseIdx (i+1)) (A++Z::B)
 | 0,b,p::q::ps,X::Y::Xs,u,n,w,v,m,w',h,e1,e2=>by
  obtain⟨a1,a2,a3,a4,c1,c2,c3,c4,c5⟩:=h
  simp only[List.getElem?_cons_zero,List.getElem?_cons_succ,Option.some.injEq]at e1 e2
  subst e1 e2
  dsimp only at a1 a2 c1 c2
  refine⟨[],X,Y,Xs,rfl,by simpa using a1,a2,by omega,c2,a4,c4,a3,c3,fun Z sz lz=>?_⟩
  refine⟨a1,lz.symm,by omega,sz,?_⟩
  rw[lz,a2,c2,<- Nat.add_assoc];exact c5
 | i+1,b,p::ps,X::Xs,u,n,w,v,m,w',h,e1,e2=>by
  obtain⟨a1,a2,a3,a4,a5⟩:=h
  rw[List.getElem?_cons_succ]at e1 e2
  obtain⟨A,X',Y,B,rfl,c2,c3,c4,c5,c6,c7,c8,c9,c10⟩:=Pn.two a5 e1 e2
  refine⟨X::A,X',Y,B,rfl,by rw[List.flatten_cons,List.length_append];omega,c3,c4,c5,c6,c7,c8,c9,fun Z sz lz=>?_⟩
  exact⟨a1,a2,a3,a4,c10 Z sz lz⟩
 | 0,_,[],_,_,_,_,_,_,_,_,e1,_=>by simp at e1
 | _+1,_,[],_,_,_,_,_,_,_,_,e1,_=>by simp at e1
 | 0,_,[_],_,_,_,_,_,_,_,_,_,e2=>by simp at e2
 | 0,_,_::_::_,[],_,_,_,_,_,_,h,_,_=>h.elim
 | 0,_,_::_::_,[_],_,_,_,_,_,_,h,_,_=>h.2.2.2.2.elim
 | _+1,_,_::_,[],_,_,_,_,_,_,h,_,_=>h.elim
theorem Pn.push {r:Keyed->Int}{X:List Keyed}{w:Nat}(hx:0<X.length)(sx:Srt r X):∀ {b ps Xs},Pn r b ps Xs->Pn r b (ps++[(b+Xs.flatten.length,X.length,w)]) (Xs++[X])
 | _,[],[],_=>⟨by simp,rfl,hx,sx,trivial⟩
 | b,p::ps,Y::Xs,h=>by
  have:=Pn.push (w:=w) hx sx h.2.2.2.2
  refine⟨h.1,h.2.1,h.2.2.1,h.2.2.2.1,?_⟩
  rw[List.flatten_cons,List.length_append,<- Nat.add_assoc];exact this
 | _,[],_::_,h=>h.elim
 | _,_::_,[],h=>h.elim
theorem Pn.cg {r:Keyed->Int}:∀ {b ps qs Xs},Pn r b ps Xs->ps.map (fun p=>(p.1,p.2.1))=qs.map (fun p=>(p.1,p.2.1))->Pn r b qs Xs
 | _,[],[],[],_,_=>trivial
 | _,p::ps,q::qs,X::Xs,h,e=>by
  simp only[List.map_cons,List.cons.injEq,Prod.mk.injEq]at e
  exact⟨by rw[<- e.1.1];exact h.1,by rw[<- e.1.2];exact h.2.1,h.2.2.1,h.2.2.2.1,Pn.cg h.2.2.2.2 e.2⟩
 | _,[],_::_,_,_,e=>by simp at e
 | _,_::_,[],_,_,e=>by simp at e
 | _,[],[],_::_,h,_=>h.elim
 | _,_::_,_::_,[],h,_=>h.elim
structure Jr (κ:SortKind)(r:Keyed->Int)(a0:Array Keyed)(lo:Nat)(st:SortSt):Prop where
 kd:kindOf st=κ
 fl:failedOf st=none
 pm:(arrOf st).Perm a0
 rn:∃Xs rest,(arrOf st).toList=Xs.flatten++rest/\Xs.flatten.length=lo/\Pn r 0 (pendingOf st).toList Xs
theorem Jr.le {κ:SortKind}{r:Keyed->Int}{a0:Array Keyed}{lo:Nat}{st:SortSt}(j:Jr κ r a0 lo st):(pendingOf st).size<=lo:=by
 obtain⟨Xs,rest,e,l,p⟩:=j.rn
 have:=p.len
 rw[Array.length_toList]at this
 omega
theorem b1k {r:Keyed->Int}{xs:Array Keyed}{lo n:Nat}{pre Y post:List Keyed}(u:Up r xs lo n)(e:xs.toList=pre++Y++post)(hp:pre.length=lo)(hy:Y.length=n):Srt r Y:=by
 refine List.pairwise_iff_getElem.mpr fun i j hi hj ij=>?_
 have g:∀k (h:k<Y.length),kr r xs (lo+k)=r Y[k]:=fun k h=>by
  subst hp
  obtain⟨q,e1⟩:=g0v e h
  unfold kr
  rw[Array.getElem?_eq_getElem q,e1];rfl
 have:=u i j (by omega) (by omega)
 rw[g i hi,g j hj]at this
 exact this
section
variable {M:Model}{A:Around}{E:Value->Shared->Prop}{s:Shared}{κ:SortKind}{r:Keyed->Int}{P:Keyed->Prop}{a0:Array Keyed}
theorem r0z (C:Cm M A E s κ r P)(hP:∀x∈a0.toList,P x){st:SortSt}{lo i:Nat}(j:Jr κ r a0 lo st)(hi:i+1<(pendingOf st).size){Q:Bool->SortSt->Prop}
  (h:∀st',Jr κ r a0 lo st'->(pendingOf st').size+1=(pendingOf st).size->Q true st'):wpS M A E s (mergeAt' i) Q st:=by
 obtain⟨Xs,rest,e,l,p⟩:=j.rn
 have g1:(pendingOf st)[i]? = some (pendingOf st)[i]:=Array.getElem?_eq_getElem (by omega)
 have g2:(pendingOf st)[i+1]? = some (pendingOf st)[i+1]:=Array.getElem?_eq_getElem hi
 rcases hpi:(pendingOf st)[i]with⟨u,n,w⟩
 rcases hpj:(pendingOf st)[i+1]with⟨v,m,w'⟩
 rw[hpi]at g1;rw[hpj]at g2
 obtain⟨X1,X,Y,X2,rfl,c2,c3,c4,c5,c6,c7,c8,c9,c10⟩:=p.two (i:=i) (by rw[Array.getElem?_toList];exact g1) (by rw[Array.getElem?_toList];exact g2)
 rw[Nat.zero_add]at c2
 refine w0x C (pre:=X1.flatten) (X:=X) (Y:=Y) (post:=X2.flatten++rest) j.kd j.fl g1 g2 ?_ (fun x hx=>hP _ ((Array.perm_iff_toList_perm.mp j.pm).mem_iff.mp hx)) c2 c3 (by omega) c5 c6 c7 c8 c9 fun Z arr g z1 z2 z3=>?_
 ·rw[e];simp
 ·have lz:Z.length=n+m:=by rw[z1.length_eq,List.length_append];omega
  refine h _ ⟨rfl,rfl,?_,X1++Z::X2,rest,by rw[z3];simp,?_,?_⟩ ?_
  ·refine Array.Perm.trans ?_ j.pm
   rw[Array.perm_iff_toList_perm,z3,e]
   simp only[List.flatten_append,List.flatten_cons,List.append_assoc]
   refine List.Perm.append_left _ ?_
   rw[<- List.append_assoc X Y]
   exact List.Perm.append_right _ z1
  ·rw[<- l];simp only[List.flatten_append,List.flatten_cons,List.length_append];omega
  ·have:=c10 Z z2 lz
   show Pn r 0 (((pendingOf st).setIfInBounds i (u,n+m,w)).eraseIdxIfInBounds (i+1)).toList _
   have hs:i+1<((pendingOf st).setIfInBounds i (u,n+m,w)).size:=by simpa using hi
   rw[Array.eraseIdxIfInBounds,dif_pos hs,Array.toList_eraseIdx,Array.toList_setIfInBounds]
   exact this
  ·show(((pendingOf st).setIfInBounds i (u,n+m,w)).eraseIdxIfInBounds (i+1)).size+1=_
   have hs:i+1<((pendingOf st).setIfInBounds i (u,n+m,w)).size:=by simpa using hi
   rw[Array.eraseIdxIfInBounds,dif_pos hs,Array.size_eraseIdx]
   simp;omega
end
section
variable {M:Model}{A:Around}{E:Value->Shared->Prop}{s:Shared}{κ:SortKind}{r:Keyed->Int}{P:Keyed->Prop}{a0:Array Keyed}
theorem v0q {l:List Keyed}{a b:Nat}(h:a+b<=l.length):∃u v w,l=u++v++w/\u.length=a/\v.length=b:=by
 refine⟨l.take a,(l.drop a).take b,(l.drop a).drop b,?_,?_,?_⟩
 ·rw[List.append_assoc,List.take_append_drop,List.take_append_drop]
 ·rw[List.length_take];omega
 ·rw[List.length_take,List.length_drop];omega
theorem Bs.jr {st0 st:SortSt}{lo n:Nat}(j:Jr κ r a0 lo st0)(b:Bs st0 lo st)(u:Up r (arrOf st) lo n)(h1:1<=n)(hn:lo+n<=a0.size) :
  Jr κ r a0 lo st/\∃Xs Y rest,(arrOf st).toList=Xs.flatten++Y++rest/\Xs.flatten.length=lo/\Y.length=n/\Srt r Y/\Pn r 0 (pendingOf st).toList Xs:=by
 obtain⟨Xs,rest,e,l,p⟩:=j.rn
 have sz:(arrOf st0).size=a0.size:=j.pm.size_eq
 have hs:(arrOf st).toList.length=a0.size:=by rw[Array.length_toList,b.sz,sz]
 obtain⟨f,v,w,e1,l1,l2⟩:=v0q (l:=(arrOf st).toList) (a:=lo) (b:=n) (by omega)
 have ef:f=Xs.flatten:=by
  refine List.ext_getElem (by omega) fun i i1 i2=>?_
  have:=b.ah i (by omega)
  rw[<- Array.getElem?_toList,<- Array.getElem?_toList,e1,e,List.append_assoc,List.getElem?_append_left i1,List.getElem?_append_left i2,List.getElem?_eq_getElem i1,List.getElem?_eq_getElem i2]at this
  exact Option.some.inj this
 subst ef
 have pp:Pn r 0 (pendingOf st).toList Xs:=by rw[b.eq];exact p
 refine⟨⟨by rw[b.eq];exact j.kd,by rw[b.eq];exact j.fl,b.pm.trans j.pm,Xs,v++w,by rw[e1,List.append_assoc],l,pp⟩,Xs,v,w,e1,l,l2,b1k u e1 l1 l2,pp⟩
def K7 (κ:SortKind)(r:Keyed->Int)(a0:Array Keyed)(lo:Nat)(Y rest:List Keyed)(st:SortSt):Prop :=
 ∃Xs,kindOf st=κ/\failedOf st=none/\(arrOf st).Perm a0/\(arrOf st).toList=Xs.flatten++Y++rest/\Xs.flatten.length=lo/\Pn r 0 (pendingOf st).toList Xs
theorem m0f (C:Cm M A E s κ r P)(hP:∀x∈a0.toList,P x){st:SortSt}{lo i:Nat}{Y0 rest:List Keyed}(j:K7 κ r a0 lo Y0 rest st)(hi:i+1<(pendingOf st).size){Q:Bool->SortSt->Prop}
  (h:∀st',K7 κ r a0 lo Y0 rest st'->(pendingOf st').size+1=(pendingOf st).size->Q true st'):wpS M A E s (mergeAt' i) Q st:=by
 obtain⟨Xs,jkd,jfl,jpm,e,l,p⟩:=j
 have g1:(pendingOf st)[i]? = some (pendingOf st)[i]:=Array.getElem?_eq_getElem (by omega)
 have g2:(pendingOf st)[i+1]? = some (pendingOf st)[i+1]:=Array.getElem?_eq_getElem hi
 rcases hpi:(pendingOf st)[i]with⟨u,n,w⟩
 rcases hpj:(pendingOf st)[i+1]with⟨v,m,w'⟩
 rw[hpi]at g1;rw[hpj]at g2
 obtain⟨X1,X,Y,X2,rfl,c2,c3,c4,c5,c6,c7,c8,c9,c10⟩:=p.two (i:=i) (by rw[Array.getElem?_toList];exact g1) (by rw[Array.getElem?_toList];exact g2)
 rw[Nat.zero_add]at c2
 refine w0x C (pre:=X1.flatten) (X:=X) (Y:=Y) (post:=X2.flatten++Y0++rest) jkd jfl g1 g2 ?_ (fun x hx=>hP _ ((Array.perm_iff_toList_perm.mp jpm).mem_iff.mp hx)) c2 c3 (by omega) c5 c6 c7 c8 c9 fun Z arr g z1 z2 z3=>?_
 ·rw[e];simp
 ·have lz:Z.length=n+m:=by rw[z1.length_eq,List.length_append];omega
  refine h _ ⟨X1++Z::X2,rfl,rfl,?_,by rw[z3];simp,?_,?_⟩ ?_
  ·refine Array.Perm.trans ?_ jpm
   rw[Array.perm_iff_toList_perm,z3,e]
   simp only[List.flatten_append,List.flatten_cons,List.append_assoc]
   refine List.Perm.append_left _ ?_
   rw[<- List.append_assoc X Y]
   exact List.Perm.append_right _ z1
  ·rw[<- l];simp only[List.flatten_append,List.flatten_cons,List.length_append];omega
  ·have:=c10 Z z2 lz
   show Pn r 0 (((pendingOf st).setIfInBounds i (u,n+m,w)).eraseIdxIfInBounds (i+1)).toList _
   have hs:i+1<((pendingOf st).setIfInBounds i (u,n+m,w)).size:=by simpa using hi
   rw[Array.eraseIdxIfInBounds,dif_pos hs,Array.toList_eraseIdx,Array.toList_setIfInBounds]
   exact this
  ·show(((pendingOf st).setIfInBounds i (u,n+m,w)).eraseIdxIfInBounds (i+1)).size+1=_
   have hs:i+1<((pendingOf st).setIfInBounds i (u,n+m,w)).size:=by simpa using hi
   rw[Array.eraseIdxIfInBounds,dif_pos hs,Array.size_eraseIdx]
   simp;omega
theorem f0x (f:Nat×Nat×Nat->Nat×Nat×Nat):∀(l:List (Nat×Nat×Nat)) (i:Nat),(∀x,((f x).1,(f x).2.1)=(x.1,x.2.1))->(l.modify i f).map (fun p=>(p.1,p.2.1))=l.map (fun p=>(p.1,p.2.1))
 | [],i,_=>by simp
 | x::l,0,h=>by simp[List.modify_zero_cons] ;have:=h x;simpa using this
 | x::l,i+1,h=>by rw[List.modify_succ_cons,List.map_cons,List.map_cons,f0x f l i h]
theorem r0b (C:Cm M A E s κ r P){st:SortSt}{Q:Unit->SortSt->Prop}(hP:∀x∈(arrOf st).toList,P x)(hk:kindOf st=κ)(hf:failedOf st=none)(hp:pendingOf st = #[])
  (h:∀st',(arrOf st').toList.Perm (arrOf st).toList->failedOf st'=none->Srt r (arrOf st').toList->Q () st'):wpS M A E s sortRuns' Q st:=by
 rw[sortRuns'_eq]
 refine wpS_bind (wpS_get ?_)
 dsimp only
 generalize hz:(arrOf st).size=z
 generalize minRun' z z 0=mr
 have j0:Jr κ r (arrOf st) 0 st:=⟨hk,hf,Array.Perm.refl _,[],(arrOf st).toList,rfl,rfl,by rw[hp];trivial⟩
 refine wpS_bind (wpS_mono (wpS_forRange (I:=fun x c st'=>∃lo,c=(none,lo)/\x<=lo/\lo<=z/\Jr κ r (arrOf st) lo st')
  (Q:=fun c st'=>c=(none,z)/\Jr κ r (arrOf st) z st') ?_ ?_ ⟨0,rfl,Nat.le_refl _,Nat.zero_le _,j0⟩) ?_)
 ·rintro x c st2 _ hx ⟨lo,rfl,a1,a2,j⟩
  dsimp only
  by_cases g:lo>=z
  ·rw[if_pos g]
   have:lo=z:=by omega
   subst this
   exact wpS_pure ⟨rfl,j⟩
  rw[if_neg g]
  have sz:(arrOf st2).size=z:=by rw[j.pm.size_eq,hz]
  have hP2:∀x∈(arrOf st2).toList,P x:=fun x hx=>hP _ ((Array.perm_iff_toList_perm.mp j.pm).mem_iff.mp hx)
  refine wpS_bind (d1m C j.kd hP2 (by omega) (by omega) (Bs.start st2 lo) fun n st3 b3 h1 hn u3=>?_)
  dsimp only
  have hn:lo+n<=z:=by omega
  by_cases g2:n<mr
  ·rw[if_pos g2]
   refine wpS_bind (wpS_lift (wpAny_rule ⟨rfl,?_⟩))
   refine wpS_bind (a1v C j.kd hP2 (by omega) (by omega) (by omega) b3 u3 fun st3 b3 u3=>?_)
   simp only[Bool.not_true,Bool.false_eq_true,if_false]
   have h1:1<=min (z - lo) mr:=by omega
   have hn:lo+min (z - lo) mr<=z:=by omega
   generalize min (z - lo) mr=n at u3 h1 hn ⊢
   obtain⟨j3,Xs,Y,rest,e,l,ly,sy,p⟩:=b3.jr j u3 h1 (by omega)
   refine wpS_bind (wpS_get ?_)
   have fin:∀(st4:SortSt),(∃Xs,kindOf st4=κ/\failedOf st4=none/\(arrOf st4).Perm (arrOf st)/\(arrOf st4).toList=Xs.flatten++Y++rest/\Xs.flatten.length=lo/\Pn r 0 (pendingOf st4).toList Xs) ->
     Jr κ r (arrOf st) (lo+n) (setPending st4 ((pendingOf st4).push (lo,n,0))):=by
    rintro st4 ⟨Xs,k1,k2,k3,k4,k5,k6⟩
    refine⟨k1,k2,k3,Xs++[Y],rest,by show(arrOf st4).toList=_;rw[k4];simp,by rw[List.flatten_append,List.length_append,k5];simp[ly],?_⟩
    show Pn r 0 ((pendingOf st4).push (lo,n,0)).toList (Xs++[Y])
    rw[Array.toList_push]
    have:=k6.push (w:=0) (X:=Y) (by omega) sy
    rw[Nat.zero_add,k5,ly]at this
    exact this
   cases hb:(pendingOf st3).back? with
   | none =>
    dsimp only
    exact wpS_bind (wpS_modify (wpS_pure ⟨lo+n,rfl,by omega,hn,fin st3 ⟨Xs,j3.kd,j3.fl,j3.pm,e,l,p⟩⟩))
   | some q =>
    obtain⟨s1,n1,w1⟩:=q
    dsimp only
    generalize power' z (2*s1+n1) (2*s1+n1+n1+n) z=pw
    refine wpS_bind (wpS_mono (wpS_forRange (I:=fun _ c st'=>c=(none,())/\K7 κ r (arrOf st) lo Y rest st') (Q:=fun c st'=>c=(none,())/\K7 κ r (arrOf st) lo Y rest st') ?_ (fun _ _ q=>q) ⟨rfl,Xs,j3.kd,j3.fl,j3.pm,e,l,p⟩) ?_)
    ·rintro y c st5 _ _ ⟨rfl,k7⟩
     refine wpS_bind (wpS_get ?_)
     split
     ·rename_i o1 o2 older ho
      split
      ·exact wpS_pure ⟨rfl,k7⟩
      ·have hs:(pendingOf st5).size > 1:=by
        by_cases g9:(pendingOf st5).size > 1
        ·exact g9
        ·rw[if_neg g9]at ho;cases ho
       refine wpS_bind (m0f C hP k7 (by omega) fun st6 k8 _=>?_)
       simp only[Bool.not_true,Bool.false_eq_true,if_false]
       exact wpS_pure ⟨rfl,k8⟩
     ·exact wpS_pure ⟨rfl,k7⟩
    ·rintro c st5 ⟨rfl,Ys,k1,k2,k3,k4,k5,k6⟩
     dsimp only
     refine wpS_bind (wpS_modify (wpS_bind (wpS_modify (wpS_pure ⟨lo+n,rfl,by omega,hn,?_⟩))))
     refine fin (setPending st5 _) ⟨Ys,k1,k2,k3,k4,k5,k6.cg ?_⟩
     show _=List.map _ ((pendingOf st5).modify _ _).toList
     rw[Array.toList_modify]
     exact(f0x (fun x=>(x.1,x.2.1,pw)) _ _ fun x=>rfl).symm
  ·rw[if_neg g2]
   obtain⟨j3,Xs,Y,rest,e,l,ly,sy,p⟩:=b3.jr j u3 h1 (by omega)
   refine wpS_bind (wpS_get ?_)
   have fin:∀(st4:SortSt),(∃Xs,kindOf st4=κ/\failedOf st4=none/\(arrOf st4).Perm (arrOf st)/\(arrOf st4).toList=Xs.flatten++Y++rest/\Xs.flatten.length=lo/\Pn r 0 (pendingOf st4).toList Xs) ->
     Jr κ r (arrOf st) (lo+n) (setPending st4 ((pendingOf st4).push (lo,n,0))):=by
    rintro st4 ⟨Xs,k1,k2,k3,k4,k5,k6⟩
    refine⟨k1,k2,k3,Xs++[Y],rest,by show(arrOf st4).toList=_;rw[k4];simp,by rw[List.flatten_append,List.length_append,k5];simp[ly],?_⟩
    show Pn r 0 ((pendingOf st4).push (lo,n,0)).toList (Xs++[Y])
    rw[Array.toList_push]
    have:=k6.push (w:=0) (X:=Y) (by omega) sy
    rw[Nat.zero_add,k5,ly]at this
    exact this
   cases hb:(pendingOf st3).back? with
   | none =>
    dsimp only
    exact wpS_bind (wpS_modify (wpS_pure ⟨lo+n,rfl,by omega,hn,fin st3 ⟨Xs,j3.kd,j3.fl,j3.pm,e,l,p⟩⟩))
   | some q =>
    obtain⟨s1,n1,w1⟩:=q
    dsimp only
    generalize power' z (2*s1+n1) (2*s1+n1+n1+n) z=pw
    refine wpS_bind (wpS_mono (wpS_forRange (I:=fun _ c st'=>c=(none,())/\K7 κ r (arrOf st) lo Y rest st') (Q:=fun c st'=>c=(none,())/\K7 κ r (arrOf st) lo Y rest st') ?_ (fun _ _ q=>q) ⟨rfl,Xs,j3.kd,j3.fl,j3.pm,e,l,p⟩) ?_)
    ·rintro y c st5 _ _ ⟨rfl,k7⟩
     refine wpS_bind (wpS_get ?_)
     split
     ·rename_i o1 o2 older ho
      split
      ·exact wpS_pure ⟨rfl,k7⟩
      ·have hs:(pendingOf st5).size > 1:=by
        by_cases g9:(pendingOf st5).size > 1
        ·exact g9
        ·rw[if_neg g9]at ho;cases ho
       refine wpS_bind (m0f C hP k7 (by omega) fun st6 k8 _=>?_)
       simp only[Bool.not_true,Bool.false_eq_true,if_false]
       exact wpS_pure ⟨rfl,k8⟩
     ·exact wpS_pure ⟨rfl,k7⟩
    ·rintro c st5 ⟨rfl,Ys,k1,k2,k3,k4,k5,k6⟩
     dsimp only
     refine wpS_bind (wpS_modify (wpS_bind (wpS_modify (wpS_pure ⟨lo+n,rfl,by omega,hn,?_⟩))))
     refine fin (setPending st5 _) ⟨Ys,k1,k2,k3,k4,k5,k6.cg ?_⟩
     show _=List.map _ ((pendingOf st5).modify _ _).toList
     rw[Array.toList_modify]
     exact(f0x (fun x=>(x.1,x.2.1,pw)) _ _ fun x=>rfl).symm
 ·rintro c st2 ⟨lo,rfl,a1,a2,j⟩
  have:lo=z:=by omega
  subst this
  exact⟨rfl,j⟩
 ·rintro c st2 ⟨rfl,j⟩
  dsimp only
  refine wpS_bind (wpS_mono (wpS_forRange (I:=fun x c st'=>c=(none,())/\Jr κ r (arrOf st) z st'/\(pendingOf st').size<=max 1 (z - x)) (Q:=fun c st'=>c=(none,())/\Jr κ r (arrOf st) z st'/\(pendingOf st').size<=1) ?_ ?_ ⟨rfl,j,by have:=j.le;omega⟩) ?_)
  ·rintro x c st3 _ hx ⟨rfl,j3,k3⟩
   refine wpS_bind (wpS_get ?_)
   by_cases g:(pendingOf st3).size<=1
   ·rw[if_pos g];exact wpS_pure ⟨rfl,j3,g⟩
   rw[if_neg g]
   refine wpS_bind (r0z C hP j3 ?_ fun st4 j4 k4=>?_)
   ·have two:∀(q:Prop) [Decidable q] (m:Nat),(if q then m - 1 else m)<=m:=fun q _ m=>by split <;> omega
    exact Nat.lt_of_le_of_lt (Nat.succ_le_succ (two _ _)) (by omega)
   ·simp only[Bool.not_true,Bool.false_eq_true,if_false]
    exact wpS_pure ⟨rfl,j4,by omega⟩
  ·rintro c st3 ⟨rfl,j3,k3⟩
   exact⟨rfl,j3,by omega⟩
  ·rintro c st3 ⟨rfl,j3,k3⟩
   refine wpS_pure (h st3 (Array.perm_iff_toList_perm.mp j3.pm) j3.fl ?_)
   obtain⟨Xs,rest,e,l,p⟩:=j3.rn
   have hl:=p.len
   have hr:rest=[]:=by
    have:(arrOf st3).toList.length=z:=by rw[Array.length_toList,j3.pm.size_eq,hz]
    rw[e,List.length_append,l]at this
    exact List.length_eq_zero_iff.mp (by omega)
   subst hr
   rw[Array.length_toList]at hl
   rw[e,List.append_nil]
   match hps:(pendingOf st3).toList,Xs,p with
   | _,[],_=>exact List.Pairwise.nil
   | q::qs,[X],p=>rw[List.flatten_cons,List.flatten_nil,List.append_nil];exact p.2.2.2.1
   | _,_::_::_,p=>simp at hl;omega
end
section
variable {prog:Program}{w:World}{A:Around}{E:Value->Shared->Prop}{s:Shared}{κ:SortKind}{r:Keyed->Int}{P:Keyed->Prop}
theorem v0r {a:Addr}{vs:List Value}{n:Nat}{R:Fin->Shared->Prop}(ho:s.heap.get? a=some (seqObj "list" vs.toArray n))(hl:vs.length<=16777216)
  (hP:∀v∈vs,P (v,v))
  (hk:∀h':Heap,(∀b o,b≠a->s.heap.get? b=some o->h'.get? b=some o)->∀Q:SortKind->Shared->Prop,Q κ {s with heap:=h'}->2<=vs.length->wpAny (model prog w) A (keyKind' vs.toArray) Q E {s with heap:=h'})
  (hC:∀h':Heap,(∀b o,b≠a->s.heap.get? b=some o->h'.get? b=some o)->Cm (model prog w) A E {s with heap:=h'} κ r P)
  (h:∀ks:List Keyed,ks.Perm (vs.map fun v=>(v,v))->Srt r ks->R (.done (.ret .none)) {s with heap:=sortedHeap s.heap a vs (ks.map (·.2)).toArray}) :
  wpAny (model prog w) A (Builtin.«list.sort» ⟨[.ref a],[]⟩) R E s:=by
 rw[list_sort_plain]
 have la:a<s.heap.objs.size:=Heap.lt_size ho
 have hz:vs.toArray.size=vs.length:=by simp
 have zp:vs.toArray.zip vs.toArray=(vs.map fun v=>(v,v)).toArray:=by
  apply Array.toList_inj.mp
  simp
  clear ho hl hP hk hC h hz
  induction vs with
  | nil=>rfl
  | cons v vs ih=>simp[ih]
 obtain⟨e1,o1⟩:∃e1,(s.heap.update a (Obj.mapSeq fun _=>#[])).get? a=some (seqObj "list" #[] e1):=⟨_,get?_update_seq ho (fun _=>#[])⟩
 refine wpAny_bind (listItems_at ho rfl (wpAny_bind (listUpdate_at ho rfl ?_ (hsz:=by rw[hz,sizeLine_eq];exact hl))))
 refine wpAny_bind (seqEpoch_at o1 rfl (wpAny_bind (wpAny_newTuple (wpAny_bind (wpAny_newList (wpAny_holding ?_))) (by rw[sizeLine_eq];simpa using hl))))
 generalize hh:((s.heap.update a (Obj.mapSeq fun _=>#[])).push (seqObj "tuple" vs.toArray 0)).push (seqObj "list" #[] 0)=h6
 have o6:h6.get? a=some (seqObj "list" #[] e1):=by
  subst hh
  rw[Heap.get?_push_ne _ _ _ (by rw[size_push',Heap.size_update];exact Nat.ne_of_lt (Nat.lt_succ_of_lt la)),Heap.get?_push_ne _ _ _ (by rw[Heap.size_update];exact Nat.ne_of_lt la),o1]
 have kp:∀b o,b≠a->s.heap.get? b=some o->h6.get? b=some o:=fun b o hb q=>by
  have lb:=Heap.lt_size q
  subst hh
  rw[Heap.get?_push_ne _ _ _ (by rw[size_push',Heap.size_update];exact Nat.ne_of_lt (Nat.lt_succ_of_lt lb)),Heap.get?_push_ne _ _ _ (by rw[Heap.size_update];exact Nat.ne_of_lt lb),Heap.get?_update_ne _ _ _ _ hb,q]
 have hf:∀out:Array Value,h6.update a (Obj.mapSeq fun _=>out)=sortedHeap s.heap a vs out:=fun out=>by subst hh;rfl
 refine(show wpAny (model prog w) A _ R E {s with heap:=h6}from ?_)
 dsimp only
 rw[zp]
 by_cases g:vs.toArray.size<2
 ·rw[if_pos g,if_pos g]
  refine wpAny_bind (wpAny_pure ?_)
  rw[StateT.run_pure]
  refine wpAny_bind (wpAny_pure (wpAny_bind (seqEpoch_at o6 rfl (wpAny_bind (listUpdate_at o6 rfl ?_ (hsz2:=?_))))))
  ·simp only[bne_self_eq_false,Bool.false_eq_true,if_false]
   have:=h (vs.map fun v=>(v,v)) (List.Perm.refl _) (by
    match vs,g with
    | [],_=>exact List.Pairwise.nil
    | [v],_=>exact List.pairwise_singleton _ _
    | _::_::_,g=>simp at g;omega)
   rw[<- hf]at this
   refine wpAny_pure ?_
   rw[List.map_toArray]
   exact this
  ·rw[Array.size_map,sizeLine_eq]
   show(vs.map fun v=>(v,v)).toArray.size<=_
   simp;omega
 ·rw[if_neg g,if_neg g]
  refine wpAny_bind (hk h6 kp _ ?_ (by omega))
  refine wpAny_bind (wpAny_mono (r0b (hC h6 kp) (st:=SortSt.mk' κ (vs.map fun v=>(v,v)).toArray #[] 7 none) (Q:=fun _ st'=>(arrOf st').toList.Perm (vs.map fun v=>(v,v))/\failedOf st'=none/\Srt r (arrOf st').toList)
   (fun x hx=>?_) rfl rfl rfl fun st' a1 a2 a3=>⟨a1,a2,a3⟩) ?_ fun _ _ e=>e)
  ·obtain⟨v,hv,rfl⟩:=List.mem_map.mp (show x∈vs.map fun v=>(v,v)by simpa using hx)
   exact hP v hv
  ·rintro⟨⟨⟩,st'⟩ s' ⟨rfl,p1,p2,p3⟩
   have lz:(arrOf st').size=vs.length:=by rw[<- Array.length_toList,p1.length_eq,List.length_map]
   refine wpAny_bind (seqEpoch_at o6 rfl (wpAny_bind (listUpdate_at o6 rfl ?_ (hsz2:=?_))))
   ·rw[p2]
    simp only[bne_self_eq_false,Bool.false_eq_true,if_false]
    have:=h _ p1 p3
    rw[<- hf]at this
    refine wpAny_pure ?_
    have e:(arrOf st').map (·.2)=(List.map (·.2) (arrOf st').toList).toArray:=by
     apply Array.toList_inj.mp;simp
    rw[e];exact this
   ·rw[Array.size_map,sizeLine_eq,lz];omega
theorem r0i {l:Addr}{vs:List Value}{Q:Value->Shared->Prop}(hl:s.heap.IsList l vs.toArray)(hn:vs.length<=16777216)
  (hP:∀v∈vs,P (v,v))
  (hk:∀h':Heap,(∀b o,s.heap.get? b=some o->h'.get? b=some o)->∀Q:SortKind->Shared->Prop,Q κ {s with heap:=h'}->2<=vs.length->wpAny (model prog w) A.in1.in1 (keyKind' vs.toArray) Q E {s with heap:=h'})
  (hC:∀h':Heap,(∀b o,s.heap.get? b=some o->h'.get? b=some o)->Cm (model prog w) A.in1.in1 E {s with heap:=h'} κ r P)
  (h:∀ks:List Keyed,ks.Perm (vs.map fun v=>(v,v))->Srt r ks->Q (.ref (s.heap.objs.size+1)) {s with heap:=sortedAll s.heap vs (ks.map (·.2)).toArray}) :
  wpAny (model prog w) A (call (.builtin "sorted") [.ref l]) Q E s:=by
 refine Calls.call_function_entry kind_sorted plain_sorted entry_sorted (args_sorted1 _) ?_
 unfold Builtin.«sorted»
 refine wpAny_bind (m:=checkCount "sorted" 1 1 _) (wpAny_pure (wpAny_bind (collect_list hl (wpAny_bind (wpAny_newList ?_ (by rw[sizeLine_eq];exact hn))) (by rw[sizeLine_eq];exact hn))))
 have hz:((s.heap.push (seqObj "list" #[] 0)).update s.heap.objs.size (Obj.mapSeq (· ++ vs.toArray))).objs.size=s.heap.objs.size+1:=by rw[Heap.size_update,size_push']
 generalize hh:((s.heap.push (seqObj "list" #[] 0)).update s.heap.objs.size (Obj.mapSeq (· ++ vs.toArray))).push (seqObj "list" vs.toArray 0)=h4
 have oL:h4.get? (s.heap.objs.size+1)=some (seqObj "list" vs.toArray 0):=by subst hh;rw[<- hz];exact Heap.get?_push_size _ rfl
 have kp:∀b o,s.heap.get? b=some o->b≠s.heap.objs.size+1/\h4.get? b=some o:=fun b o q=>by
  have lb:=Heap.lt_size q
  refine⟨Nat.ne_of_lt (Nat.lt_succ_of_lt lb),?_⟩
  subst hh
  rw[Heap.get?_push_ne _ _ _ (by rw[hz];exact Nat.ne_of_lt (Nat.lt_succ_of_lt lb)),Heap.get?_update_ne _ _ _ _ (Nat.ne_of_lt lb),Heap.get?_push_ne _ _ _ (Nat.ne_of_lt lb),q]
 refine(show wpAny _ _ _ _ _ {s with heap:=h4}from ?_)
 rw[hz]
 refine wpAny_bind (wpAny_holding (wpAny_call_entry slot_list_sort ⟨_,oL,rfl⟩ entry_list_sort (v0r (κ:=κ) (r:=r) (P:=P) oL hn hP (fun h' q=>hk h' fun b o e=>q b o (kp b o e).1 (kp b o e).2) (fun h' q=>hC h' fun b o e=>q b o (kp b o e).1 (kp b o e).2) fun ks k1 k2=>⟨_,rfl,?_⟩) (args_list_sort _)))
 refine wpAny_pure ⟨_,rfl,?_⟩
 have:=h ks k1 k2
 subst hh
 exact this
end
section
variable {prog:Program}{w:World}{A:Around}{E:Value->Shared->Prop}{s:Shared}
theorem a1p {κ:SortKind}{M:Model}{x y:Keyed}{b:Bool}(hk:∀(E':Value->Shared->Prop) (Q:Bool->Shared->Prop),Q b s->wpAny M A (keyLt' κ x.1 y.1) Q E' s){st:SortSt}{Q:Option Bool->SortSt->Prop}(e:kindOf st=κ)(h:Q (some b) st):wpS M A E s (lt' x y) Q st:=by
 rw[lt'_eq]
 refine wpS_bind (wpS_get ?_)
 rw[e]
 refine wpS_bind (wpS_lift (wpAny_attempt (hk _ _ ?_)))
 exact⟨rfl,wpS_pure h⟩
end
end L2
set_option maxHeartbeats 1000000
namespace L2
open PySem PySem.Spec PyProof.Rows
open PySem.MeetsSeq PySem.MeetsSeq2 PySem.MeetsSeq3
open PySem.AutoSeq1 (wpAny_loadPart')
theorem p0c:∀ {vs:List Value} {ns:List Int} {i:Nat},IntsAre vs ns->i<vs.length->∃t,vs[i]? = some (.int (ns.getD i 0) t)/\ns.drop i=ns.getD i 0::ns.drop (i+1)
 | _,_,i,.nil,h=>by simp at h
 | _,_,0,.cons n t h,_=>⟨t,rfl,rfl⟩
 | _,_,i+1,.cons n t h,hl=>by
  obtain⟨u,h1,h2⟩:=p0c (i:=i) h (by simpa using hl)
  exact⟨u,by simpa using h1,by simpa using h2⟩
theorem z0f (l b:Addr)(items items2:Array Value)(n n2:Nat)(ns ms:List Int)(hi:IntsAre items.toList ns)(hj:IntsAre items2.toList ms)(k:Nat) :
  ∀i:Nat,items.size - i=k->i<=items.size->i<=items2.size->Meets (Builtin.«list.__eq__.loop» ⟨[.ref l,.ref b,rawInt i,rawInt 0],[]⟩)
   (fun _ R s=>s.heap.get? l=some {cls:=.type "list",dict:=none,data:=.seq items n,slots:=#[]}/\s.heap.get? b=some {cls:=.type "list",dict:=none,data:=.seq items2 n2,slots:=#[]} /\
    R (.ok (.ret (.bool (HT.lexLt (ns.drop i) (ms.drop i))))) s):=by
 have z1:items.size=ns.length:=by rw[<- hi.length];simp
 have z2:items2.size=ms.length:=by rw[<- hj.length];simp
 induction k with
 | zero =>
  intro i hk q1 q2 prog w A R s h
  obtain⟨hp,g,d,tk,os⟩:=s;obtain⟨hl,hb,h⟩:=h
  wp_walk using wpAny_loadPart' hl,wpAny_loadPart' hb
  have hi1:items[((i:Nat):Int).toNat]? = none:=by simp;omega
  have hd:ns.drop i=[]:=by simp;omega
  rw[hd]at h
  have fin:HT.lexLt [] (ms.drop i)=decide (items.size<items2.size):=by
   cases hm:ms.drop i with
   | nil =>
    have:ms.length<=i:=by simpa using hm
    rw[HT.lexLt_nil_nil];exact(decide_eq_false (by omega)).symm
   | cons a r =>
    have:i<ms.length:=by
     have:=congrArg List.length hm
     simp at this;omega
    rw[HT.lexLt_nil_cons];exact(decide_eq_true (by omega)).symm
  rw[fin]at h
  rw[hi1]
  cases items2[((i:Nat):Int).toNat]? with
  | none =>
   wp_walk using wpAny_loadPart' hl,wpAny_loadPart' hb
   exact h
  | some x =>
   wp_walk using wpAny_loadPart' hl,wpAny_loadPart' hb
   exact h
 | succ k ih =>
  intro i hk q1 q2 prog w A R s h
  obtain⟨hp,g,d,tk,os⟩:=s;obtain⟨hl,hb,h⟩:=h
  wp_walk using wpAny_loadPart' hl,wpAny_loadPart' hb
  have hlt:i<items.size:=by omega
  obtain⟨t,e1,d1⟩:=p0c (i:=i) hi (by simpa using hlt)
  have hi1:items[((i:Nat):Int).toNat]? = some (.int (ns.getD i 0) t):=by rw[Int.toNat_natCast,<- Array.getElem?_toList];exact e1
  by_cases g2:i<items2.size
  ·obtain⟨u,e2,d2⟩:=p0c (i:=i) hj (by simpa using g2)
   have hi2:items2[((i:Nat):Int).toNat]? = some (.int (ms.getD i 0) u):=by rw[Int.toNat_natCast,<- Array.getElem?_toList];exact e2
   have hc:((i:Int)+1)=((i+1:Nat):Int):=by push_cast;rfl
   rw[d1,d2,HT.lexLt_cons]at h
   rw[hi1,hi2]
   refine wpAny_bind (wpAny_eqBool_int ?_)
   by_cases e:ns.getD i 0=ms.getD i 0
   ·rw[if_pos e]at h
    rw[show(ns.getD i 0==ms.getD i 0)=true by simpa using e]
    wp_walk
    rw[hc]
    exact⟨plainId_quiet plain_eq_loop _,codeAny_builtin entry_eq_loop (by
     rw[Around.under_plainId plain_eq_loop _]
     exact ih (i+1) (by omega) (by omega) (by omega) prog w A R _ ⟨hl,hb,h⟩)⟩
   ·rw[if_neg e]at h
    rw[show(ns.getD i 0==ms.getD i 0)=false by simpa using e]
    wp_walk using wpAny_loadPart' hl,wpAny_loadPart' hb
    rw[hi1,hi2]
    refine wpAny_bind (wpAny_richCompare_same (op:=.Lt) (typeIs_int _ _ t) (typeIs_int _ _ u) slot_int_lt (call_int_lt ⟨(fun x=>nomatch x),?_⟩))
    wp_walk
    exact h
  ·have hi2:items2[((i:Nat):Int).toNat]? = none:=by simp;omega
   have d2:ms.drop i=[]:=by simp;omega
   rw[d1,d2,HT.lexLt_cons_nil]at h
   rw[hi1,hi2]
   wp_walk using wpAny_loadPart' hl,wpAny_loadPart' hb
   have:decide (items.size<items2.size)=false:=decide_eq_false (by omega)
   show R (.ok (.ret (.bool (decide (items.size<items2.size))))) _
   rw[this];exact h
theorem n0b (l b:Addr)(items items2:Array Value)(n n2:Nat)(ns ms:List Int)(hi:IntsAre items.toList ns)(hj:IntsAre items2.toList ms) :
  Meets (Builtin.«list.__lt__» ⟨[.ref l,.ref b],[]⟩)
   (fun _ R s=>s.heap.get? l=some {cls:=.type "list",dict:=none,data:=.seq items n,slots:=#[]}/\s.heap.get? b=some {cls:=.type "list",dict:=none,data:=.seq items2 n2,slots:=#[]} /\
    R (.ok (.ret (.bool (HT.lexLt ns ms)))) s):=by
 intro prog w A R s h
 obtain⟨hp,g,d,tk,os⟩:=s;obtain⟨hl,hb,h⟩:=h
 have f3:=AutoSeq1.sub_list_list
 wp_walk using wpAny_loadPart' hl,wpAny_loadPart' hb
 exact⟨plainId_quiet plain_eq_loop _,codeAny_builtin entry_eq_loop (by
  rw[Around.under_plainId plain_eq_loop _]
  exact z0f l b items items2 n n2 ns ms hi hj _ 0 rfl (Nat.zero_le _) (Nat.zero_le _) prog w A R _ ⟨hl,hb,by simpa using h⟩)⟩
def rkL:Nat->List Int->Int
 | 0,_=>0
 | _+1,[]=>0
 | k+1,x::xs=>(x+1)*1000^k+rkL k xs
def okL (ns:List Int):Prop:=∀x∈ns,0<=x/\x<998
theorem m0n:∀(k:Nat) (xs:List Int),okL xs->0<=rkL k xs/\rkL k xs<1000^k
 | 0,xs,_=>⟨Int.le_refl _,by show(0:Int)<1000^0;decide⟩
 | k+1,[],_=>⟨Int.le_refl _,Int.pow_pos (by decide)⟩
 | k+1,x::xs,h=>by
  have ih:=m0n k xs fun y hy=>h y (List.mem_cons_of_mem _ hy)
  obtain⟨h1,h2⟩:=h x (List.mem_cons_self ..)
  have hp:(0:Int)<1000^k:=Int.pow_pos (by decide)
  have m1:0<=(x+1)*1000^k:=Int.mul_nonneg (by omega) (by omega)
  have m2:(x+1)*1000^k<=998*1000^k:=Int.mul_le_mul_of_nonneg_right (by omega) (by omega)
  show 0<=(x+1)*1000^k+rkL k xs/\(x+1)*1000^k+rkL k xs<1000^(k+1)
  rw[Int.pow_succ]
  omega
theorem t0a:∀(k:Nat) (xs ys:List Int),xs.length<=k->ys.length<=k->okL xs->okL ys->HT.lexLt xs ys=decide (rkL k xs<rkL k ys)
 | 0,[],[],_,_,_,_=>rfl
 | 0,_::_,_,h,_,_,_=>by simp at h
 | 0,[],_::_,_,h,_,_=>by simp at h
 | k+1,[],[],_,_,_,_=>by rw[HT.lexLt_nil_nil];exact(decide_eq_false (by simp[rkL])).symm
 | k+1,[],y::ys,_,_,_,hy=>by
  have ih:=m0n k ys fun z hz=>hy z (List.mem_cons_of_mem _ hz)
  obtain⟨h1,h2⟩:=hy y (List.mem_cons_self ..)
  have hp:(0:Int)<1000^k:=Int.pow_pos (by decide)
  have m1:1*1000^k<=(y+1)*1000^k:=Int.mul_le_mul_of_nonneg_right (by omega) (by omega)
  rw[HT.lexLt_nil_cons]
  refine(decide_eq_true ?_).symm
  show(0:Int)<(y+1)*1000^k+rkL k ys
  omega
 | k+1,x::xs,[],_,_,hx,_=>by
  have ih:=m0n k xs fun z hz=>hx z (List.mem_cons_of_mem _ hz)
  obtain⟨h1,h2⟩:=hx x (List.mem_cons_self ..)
  have hp:(0:Int)<1000^k:=Int.pow_pos (by decide)
  have m1:0<=(x+1)*1000^k:=Int.mul_nonneg (by omega) (by omega)
  rw[HT.lexLt_cons_nil]
  refine(decide_eq_false ?_).symm
  show ¬(x+1)*1000^k+rkL k xs<0
  omega
 | k+1,x::xs,y::ys,lx,ly,hx,hy=>by
  have ih:=t0a k xs ys (by simpa using lx) (by simpa using ly) (fun z hz=>hx z (List.mem_cons_of_mem _ hz)) (fun z hz=>hy z (List.mem_cons_of_mem _ hz))
  have b1:=m0n k xs fun z hz=>hx z (List.mem_cons_of_mem _ hz)
  have b2:=m0n k ys fun z hz=>hy z (List.mem_cons_of_mem _ hz)
  have hp:(0:Int)<1000^k:=Int.pow_pos (by decide)
  rw[HT.lexLt_cons]
  show _=decide ((x+1)*1000^k+rkL k xs<(y+1)*1000^k+rkL k ys)
  by_cases e:x=y
  ·subst e
   rw[if_pos rfl,ih,decide_eq_decide]
   omega
  ·rw[if_neg e,decide_eq_decide]
   constructor
   ·intro g
    have:=Int.mul_le_mul_of_nonneg_right (c:=1000^k) (show x+1+1<=y+1 by omega) (by omega)
    rw[Int.add_mul (x+1)]at this
    omega
   ·intro g
    rcases Int.lt_or_gt_of_ne e with z | z
    ·exact z
    ·have:=Int.mul_le_mul_of_nonneg_right (c:=1000^k) (show y+1+1<=x+1 by omega) (by omega)
     rw[Int.add_mul (y+1)]at this
     omega
def LsAt (h:Heap)(a:Addr)(ns:List Int):Prop:=∃vs n,IntsAre vs ns/\h.get? a=some (seqObj "list" vs.toArray n)
theorem LsAt.kept {h h':Heap}{a:Addr}{ns:List Int}(x:LsAt h a ns)(k:∀b o,h.get? b=some o->h'.get? b=some o):LsAt h' a ns:=by
 obtain⟨vs,n,i,e⟩:=x
 exact⟨vs,n,i,k _ _ e⟩
theorem h0m:∀ {vs:List Value} {ns ms:List Int},IntsAre vs ns->IntsAre vs ms->ns=ms
 | _,_,_,.nil,.nil=>rfl
 | _,_,_,.cons n t h,.cons _ _ h'=>by rw[h0m h h']
theorem LsAt.uniq {h:Heap}{a:Addr}{ns ms:List Int}(x:LsAt h a ns)(y:LsAt h a ms):ns=ms:=by
 obtain⟨vs,n,i,e⟩:=x
 obtain⟨vs',n',i',e'⟩:=y
 rw[e]at e'
 have hd:(Data.seq vs.toArray n) = .seq vs'.toArray n':=congrArg Obj.data (Option.some.inj e')
 injection hd with h1 h2
 have:vs=vs':=by simpa using congrArg Array.toList h1
 subst this
 exact h0m i i'
open Classical in
noncomputable def lsOf (h:Heap)(v:Value):List Int:=match v with
 | .ref a=>if x:∃ns,LsAt h a ns then x.choose else[]
 | _=>[]
theorem i0r {h:Heap}{a:Addr}{ns:List Int}(x:LsAt h a ns):lsOf h (.ref a)=ns:=by
 unfold lsOf
 have e:∃p,LsAt h a p:=⟨ns,x⟩
 dsimp only
 rw[dif_pos e]
 exact e.choose_spec.uniq x
section
variable {prog:Program}{w:World}{A:Around}{E:Value->Shared->Prop}{s:Shared}
theorem r0k {a b:Addr}{ns ms:List Int}{Q:Bool->Shared->Prop}(hu:A.units<cLine)(x:LsAt s.heap a ns)(y:LsAt s.heap b ms)(h:Q (HT.lexLt ns ms) s):wpAny (model prog w) A (oneLt' true (.ref a) (.ref b)) Q E s:=by
 obtain⟨vs,n,i,e⟩:=x
 obtain⟨vs',n',i',e'⟩:=y
 rw[oneLt'_eq]
 simp only[if_true]
 refine wpAny_bind (wpAny_cRoomFor hu ?_)
 refine wpAny_bind (wpAny_callSpecialIfBound?_slot ⟨_,e,rfl⟩ PySem.F.slot_list_lt (call_meets PySem.F.slot_list_lt ⟨_,e,rfl⟩ PySem.F.entry_list_lt (PySem.F.args_list_lt_2 _ _) (n0b a b _ _ n n' ns ms (by simpa using i) (by simpa using i')) ⟨e,e',?_⟩))
 exact wpAny_truthy_bool h
theorem z0x (hu:A.units<cLine){h0:Heap}(k:∀b o,h0.get? b=some o->s.heap.get? b=some o):Cm (model prog w) A E s oneType' (fun z=>rkL 100 (lsOf h0 z.1)) (fun z=>∃a ns,z.1 = .ref a/\LsAt h0 a ns/\ns.length<=100/\okL ns):=by
 refine⟨fun x y hx hy st Q e h=>?_⟩
 obtain⟨a,p,ea,pa,lp,kp⟩:=hx
 obtain⟨b,q,eb,pb,lq,kq⟩:=hy
 rw[ea,eb,i0r pa,i0r pb]at h
 refine a1p (κ:=oneType') (b:=HT.lexLt p q) (fun E' Q q'=>?_) e ?_
 ·rw[ea,eb,keyLt'_oneType]
  exact r0k hu (pa.kept k) (pb.kept k) q'
 ·rw[t0a 100 p q lp lq kp kq];exact h
theorem n0e {vs:List Value}{Q:SortKind->Shared->Prop}(hv:∀v∈vs,∃a ns,v = .ref a/\LsAt s.heap a ns)(h2:1<=vs.length)(h:Q oneType' s):wpAny (model prog w) A (keyKind' vs.toArray) Q E s:=by
 have ty:∀v∈vs,s.TypeIs v "list" := fun v hv'=>by
  obtain⟨a,ns,rfl,us,n,_,e⟩:=hv v hv'
  exact⟨_,e,rfl⟩
 have firsts:∀(vs:List Value),(∀v∈vs,s.TypeIs v "list")->∀Q:List (Option Value)->Shared->Prop,Q (vs.map fun _=>none) s->wpAny (model prog w) A (vs.mapM firstOfTuple') Q E s:=by
  intro vs
  induction vs with
  | nil=>intro _ Q q;rw[List.mapM_nil];exact wpAny_pure q
  | cons v vs ih =>
   intro hv Q q
   rw[List.mapM_cons]
   refine wpAny_bind ?_
   show wpAny (model prog w) A (do
    if(<- typeOf v) != .type "tuple" then return none
    return (<- Builtin.List.listItems v)[0]?) _ E s
   refine wpAny_bind (wpAny_typeOf (T := "list") (hv v (List.mem_cons_self ..)) ?_)
   rw[if_pos (by decide)]
   exact wpAny_pure (wpAny_bind (ih (fun v' z=>hv v' (List.mem_cons_of_mem _ z)) _ (wpAny_pure q)))
 have types:∀(vs:List Value),(∀v∈vs,s.TypeIs v "list")->∀Q:List Value->Shared->Prop,Q (vs.map fun _=>Value.type "list") s->wpAny (model prog w) A (vs.mapM typeOf) Q E s:=by
  intro vs
  induction vs with
  | nil=>intro _ Q q;rw[List.mapM_nil];exact wpAny_pure q
  | cons v vs ih =>
   intro hv Q q
   rw[List.mapM_cons]
   exact wpAny_bind (wpAny_typeOf (T := "list") (hv v (List.mem_cons_self ..)) (wpAny_bind (ih (fun v' z=>hv v' (List.mem_cons_of_mem _ z)) _ (wpAny_pure q))))
 obtain⟨v0,vs',rfl⟩:∃v vs',vs=v::vs':=by
  cases vs with
  | nil=>simp at h2
  | cons v vs=>exact⟨v,vs,rfl⟩
 rw[keyKind'_eq,List.mapM_toArray]
 refine wpAny_bind (wpAny_bind (firsts _ ty _ (wpAny_pure ?_)))
 rw[if_neg (by simp),if_neg (by simp),oneTypeOnly'_eq,List.mapM_toArray]
 refine wpAny_bind (wpAny_bind (wpAny_bind (types _ ty _ (wpAny_pure ?_))))
 have hall:((List.map (fun _=>Value.type "list") (v0::vs')).toArray.all fun x=>x==Value.type "list")=true:=by
  simp only[List.all_toArray,List.all_map,List.all_eq_true]
  intro _ _
  rfl
 have h0:(List.map (fun _=>Value.type "list") (v0::vs')).toArray[0]? = some (Value.type "list"):=by simp
 rw[h0]
 simp only[hall,if_true]
 exact wpAny_pure (wpAny_pure h)
end
def vOf:Value->V
 | .ref a=>.ref a
 | _=>.non
def lstI (ns:List Int):D:=.lst (ns.map D.int)
def leL (ns ms:List Int):Prop:=HT.lexLt ms ns=false
section
variable {X:Cx}(K:PySem.W.Frag)
def t0c (K:PySem.W.Frag):List V->Hp->VK->Prop:=fun xs H Q=>∃(p:Addr) (us:List V) (nss:List (List Int)),xs=[.ref p]/\SqL K H p us/\RepDs K H us (nss.map lstI)/\nss.length<10000/\(∀ns∈nss,ns.length<=100/\okL ns) /\
 ∀(us':List V) (nss':List (List Int)),us'.length=nss'.length->(us'.zip nss').Perm (us.zip nss)->nss'.Pairwise leL->∀l,H l=none->Q (.ref l) (upd H l (.lst us'))
theorem z0g {pins:List (Addr×Obj)}{σ:St}{H:Hp}{s:Shared}(I:Inv X pins σ H s){v:V}{u:Value}{ns:List Int}(rv:RelV v u)(h:RepD X.K H v (lstI ns)):∃a,v = .ref a/\u = .ref a/\LsAt s.heap a ns:=by
 unfold lstI RepD at h
 obtain⟨a,vs,rfl,st,rd⟩:=h
 rw[g0w]at rd
 subst rd
 obtain⟨_,its,n,r,e⟩:=(show c0s X.prog X.w H s.heap a (.lst (ns.map V.int))from I.hok a _ st)
 exact⟨a,rfl,rv,its,n,k0f r,e⟩
theorem p0p (hu:X.A.units+64<cLine)(hK:X.K=K:=by rfl):h0g X (.builtin "sorted") (t0c K):=by
 subst hK
 intro pins s σ H xs us Q I r h
 obtain⟨a,vs,nss,rfl,hq,rd,hl,hb,q1⟩:=h
 obtain⟨u1,rfl,ru⟩:=m0h r
 cases ru
 obtain⟨its,rv,pl,hz⟩:=I.list hq
 have l1:its.length=vs.length:=by have:=rv.length;omega
 have l2:vs.length=nss.length:=by have:=rd.length;rw[List.length_map]at this;omega
 have at':∀i (hi:i<its.length),∃b,its[i] = .ref b/\vs[i]'(by omega) = .ref b/\LsAt s.heap b (nss[i]'(by omega)):=fun i hi=>by
  obtain⟨z,e1,e2⟩:=rv.get (i:=i) (x:=vs[i]'(by omega)) (List.getElem?_eq_getElem _)
  rw[List.getElem?_eq_getElem hi]at e1
  cases e1
  obtain⟨t,g1,g2⟩:=rd.get (i:=i) (d:=lstI (nss[i]'(by omega))) (by rw[List.getElem?_map,List.getElem?_eq_getElem (by omega)];rfl)
  rw[List.getElem?_eq_getElem (by omega)]at g1
  cases g1
  obtain⟨b,h1,h2,h3⟩:=z0g I e2 g2
  exact⟨b,h2,h1,h3⟩
 have hv:∀v∈its,∃b ns,v = .ref b/\LsAt s.heap b ns/\ns.length<=100/\okL ns:=fun v hv=>by
  obtain⟨i,hi,rfl⟩:=List.getElem_of_mem hv
  obtain⟨b,h1,_,h3⟩:=at' i hi
  have:=hb _ (List.getElem_mem (by omega:i<nss.length))
  exact⟨b,_,h1,h3,this.1,this.2⟩
 have hu1:X.A.in1.in1.units<cLine:=by rw[d0o,d0o];omega
 refine r0i (κ:=oneType') (r:=fun z=>rkL 100 (lsOf s.heap z.1)) (P:=fun z=>∃a ns,z.1 = .ref a/\LsAt s.heap a ns/\ns.length<=100/\okL ns) pl.isList (by omega) hv (fun h' kp Q q g=>?_) (fun h' kp=>z0x hu1 kp) fun ks k2 k3=>?_
 ·refine n0e (s:={s with heap:=h'}) (fun v hv'=>?_) (by omega) q
  obtain⟨b,ns,e1,e2,_⟩:=hv v hv'
  exact⟨b,ns,e1,e2.kept kp⟩
 ·obtain⟨e,he⟩:=sortedAll_at s.heap its (ks.map (·.2)).toArray
  have k4:∀k∈ks,k.1=k.2/\k.2∈its:=fun k hk=>by
   obtain⟨v,h1,h2⟩:=List.mem_map.mp (k2.mem_iff.mp hk)
   subst h2;exact⟨rfl,h1⟩
  have pm:(ks.map (·.2)).Perm its:=by
   have:=k2.map (·.2)
   rw[List.map_map]at this
   exact this.trans (List.Perm.of_eq (List.map_id' _))
  have back:∀v∈its,RelV (vOf v) v:=fun v hv'=>by
   obtain⟨b,ns,rfl,_⟩:=hv v hv'
   exact rfl
  have klen:ks.length=its.length:=by rw[<- List.length_map (f:=(·.2)),pm.length_eq]
  have hfr:=I.hok.fresh (P:=X.prog) (w:=X.w) (h:=s.heap) (a:=s.heap.objs.size+1) (Nat.le_succ _)
  refine⟨.ref (s.heap.objs.size+1),_,I.laid (t':=s.toks) (o:=.lst ((ks.map (·.2)).map vOf)) (fun b o q=>sortedAll_old q) (Nat.le_succ _) ⟨?_,ks.map (·.2),e,?_,?_⟩,rfl,q1 ((ks.map (·.2)).map vOf) ((ks.map (·.2)).map (lsOf s.heap)) (by simp) ?_ ?_ _ hfr⟩
  ·rw[List.length_map,List.length_map,klen]
   exact Nat.le_trans (show its.length<=16777216 by omega) (Nat.le_of_eq sizeLine_eq.symm)
  ·have:∀l:List Value,(∀v∈l,RelV (vOf v) v)->Vals (l.map vOf) l:=by
    intro l
    induction l with
    | nil=>intro _;exact .nil
    | cons v l ih=>intro h;exact .cons (h v (List.mem_cons_self ..)) (ih fun v' z=>h v' (List.mem_cons_of_mem _ z))
   exact this _ fun v hv'=>back v (pm.mem_iff.mp hv')
  ·rw[he]
  ·have e1:its.map vOf=vs:=by
    refine List.ext_getElem (by simp;omega) fun i h1 h2=>?_
    rw[List.getElem_map]
    obtain⟨b,g1,g2,_⟩:=at' i (by simpa using h1)
    rw[g1,g2];rfl
   have e2:its.map (lsOf s.heap)=nss:=by
    refine List.ext_getElem (by simp;omega) fun i h1 h2=>?_
    rw[List.getElem_map]
    obtain⟨b,g1,g2,g3⟩:=at' i (by simpa using h1)
    rw[g1,i0r g3]
   have e3:∀l:List Value,(l.map vOf).zip (l.map (lsOf s.heap))=l.map fun v=>(vOf v,lsOf s.heap v):=fun l=>by
    induction l with
    | nil=>rfl
    | cons v l ih=>rw[List.map_cons,List.map_cons,List.map_cons,List.zip_cons_cons,ih]
   rw[<- e1,<- e2,e3,e3]
   exact pm.map _
  ·rw[List.map_map]
   refine List.pairwise_map.mpr (List.Pairwise.imp_of_mem (fun{x y} hx' hy' q=>?_) k3)
   dsimp only at q
   rw[(k4 x hx').1,(k4 y hy').1]at q
   obtain⟨b1,n1,f1,f2,f3,f4⟩:=hv x.2 (k4 x hx').2
   obtain⟨b2,n2,g1,g2,g3,g4⟩:=hv y.2 (k4 y hy').2
   show HT.lexLt (lsOf s.heap y.2) (lsOf s.heap x.2)=false
   rw[f1,g1,i0r f2,i0r g2]at q ⊢
   rw[t0a 100 n2 n1 g3 f3 g4 f4]
   exact decide_eq_false (by omega)
end
section
variable {K:PySem.W.Frag}
@[irreducible] def gSortLL:List R->AE:=fun rs ρ q=>match rs with
 | [r]=>∃nss:List (List Int),view ρ r=some (.lst (nss.map lstI))/\nss.length<10000/\(∀ns∈nss,ns.length<=100/\okL ns)/\∀nss':List (List Int),nss'.Perm nss->nss'.Pairwise leL->q (.f (nss'.map lstI)) ρ
 | _=>False
theorem m0o {H:Hp}:∀ {us:List V} {nss:List (List Int)},RepDs K H us (nss.map lstI)->∀z∈us.zip nss,RepD K H z.1 (lstI z.2)
 | [],_,_,z,h=>by simp at h
 | _::_,[],_,z,h=>by simp at h
 | u::us,ns::nss,r,z,h=>by
  rw[List.map_cons]at r
  unfold RepDs at r
  rw[List.zip_cons_cons]at h
  rcases List.mem_cons.mp h with rfl | h
  ·exact r.1
  ·exact m0o r.2 z h
theorem q0c {H:Hp}:∀ {us:List V} {nss:List (List Int)},us.length=nss.length->(∀z∈us.zip nss,RepD K H z.1 (lstI z.2))->RepDs K H us (nss.map lstI)
 | [],[],_,_=>by unfold RepDs;trivial
 | [],_::_,h,_=>by simp at h
 | _::_,[],h,_=>by simp at h
 | u::us,ns::nss,h,r=>by
  rw[List.map_cons]
  unfold RepDs
  exact⟨r (u,ns) (by simp),q0c (by simpa using h) fun z hz=>r z (by simp[hz])⟩
theorem p0n:CbOk K (t0c K) gSortLL:=by
 intro F σ ρ H vs rs q Q a i h b
 unfold gSortLL at h
 split at h
 ·obtain⟨y,rfl,iy⟩:=i.one
  obtain⟨nss,hv,hl,hb,h1⟩:=h
  obtain⟨l,us,rfl,sq,rd⟩:=c0d a iy hv
  refine⟨l,us,nss,rfl,sq,rd.same b0m,hl,hb,fun us' nss' el pm so p hp=>b.new a (h1 nss' ?_ so) (q0c el fun z hz=>m0o rd z (pm.mem_iff.mp hz)) hp⟩
  have e1:=rd.length
  rw[List.length_map]at e1
  have:=pm.map Prod.snd
  rw[List.map_snd_zip (by omega),List.map_snd_zip (by omega)]at this
  exact this
 ·exact h.elim
theorem r0r {r:R}{ρ:En}{q:Ko}{nss:List (List Int)}(hv:view ρ r=some (.lst (nss.map lstI)))(hl:nss.length<10000)(hb:∀ns∈nss,ns.length<=100/\okL ns)(h1:∀nss':List (List Int),nss'.Perm nss->nss'.Pairwise leL->q (.f (nss'.map lstI)) ρ):gSortLL [r] ρ q:=by
 unfold gSortLL
 exact⟨nss,hv,hl,hb,h1⟩
theorem q0l:∀ {xs ys:List Int},HT.lexLt xs ys=false->HT.lexLt ys xs=false->xs=ys
 | [],[],_,_=>rfl
 | [],_::_,h,_=>by rw[HT.lexLt_nil_cons]at h;cases h
 | _::_,[],_,h=>by rw[HT.lexLt_nil_cons]at h;cases h
 | x::xs,y::ys,h1,h2=>by
  rw[HT.lexLt_cons]at h1 h2
  by_cases e:x=y
  ·subst e
   rw[if_pos rfl]at h1 h2
   rw[q0l h1 h2]
  ·rw[if_neg e]at h1
   rw[if_neg (Ne.symm e)]at h2
   have:=of_decide_eq_false h1
   have:=of_decide_eq_false h2
   omega
theorem o0j {xs ys:List (List Int)}(p:xs.Perm ys)(h1:xs.Pairwise leL)(h2:ys.Pairwise leL):xs=ys :=
 List.Perm.eq_of_pairwise (le:=leL) (fun a b _ _ q1 q2=>q0l q2 q1) h1 h2 p
end
end L2
namespace L2
open PySem PySem.Spec PyProof.Rows PySem.W
end L2
namespace L2
open PySem PySem.Spec PyProof.Rows Builtin
end L2
namespace L2
open PySem PySem.Spec PyProof.Rows
theorem n0r {prog:Program}{w:World}{A:Around}(hh:A.handled=none)(it l:Addr)(hne:l≠it)(xs:Array Value) :
  Draws prog w A it [it,l] xs.size (fun i v=>xs[i]? = some v) (fun i h=>h.IsTupleIter it l i/\h.IsTuple l xs) where
 live:=fun _ _ st=>let ⟨o,ho,_⟩:=st.1;⟨o,ho⟩
 frame:=fun _ _ _ st hk=>(l0u (prog:=prog) (w:=w) hne).keep _ _ _ st fun b o hb e=>hk b hb o e
 item:=fun i s Q E hi st hQ=>(l0u hne).item A i s xs[i] Q E st (by simp[hi]) fun h' st' sb=>hQ _ h' s.toks (by simp[hi]) st' sb
 done:=fun s Q E st hE=>(l0u hne).fin A xs.size s Q E hh st (by simp) hE
open AutoSeq1 (wpAny_loadPart') in
theorem p0b (l:Addr)(xs:Array Value) :
  Meets (Builtin.«enumerate.__new__» ⟨[.type "enumerate",.ref l],[]⟩) (fun _ R s=>s.heap.IsTuple l xs /\
   R (.ok (.ret (.ref (s.heap.push {cls:=.type "tuple_iterator",data:=.fields #[.ref l,.int 0 0]}).objs.size)))
    {s with heap:=(s.heap.push {cls:=.type "tuple_iterator",data:=.fields #[.ref l,.int 0 0]}).push {cls:=.type "enumerate",data:=.fields #[.none,.bool false,.ref s.heap.objs.size,rawInt 0,.none,.none]}}) :=
 .of_wp fun prog w A R s h=>by
  obtain⟨hp,g,d,tk,os⟩:=s;obtain⟨hl,h⟩:=h
  have hsub:=sub_enumerate
  have hL:Heap.IsTuple (Shared.heap ⟨hp,g,d,tk,os⟩) l xs:=hl
  wp_walk
  refine wpAny_stack_any fun st=>wpAny_pure ?_
  split
  ·rename_i c _ _ _ _ _
   cases (c==Value.type "enumerate")
   ·wp_walk using wpAny_pyIter_tuple hL
    exact⟨_,rfl,h⟩
   ·wp_walk using wpAny_pyIter_tuple hL
    exact⟨_,rfl,h⟩
  ·wp_walk using wpAny_pyIter_tuple hL
   exact⟨_,rfl,h⟩
theorem r0x {prog:Program}{w:World}{A:Around}{E:Value->Shared->Prop}{s:Shared}{l:Addr}{xs:Array Value}{Q:Value->Shared->Prop}(hL:s.heap.IsTuple l xs)
  (h:∀h',IsEnum h' (s.heap.objs.size+1) s.heap.objs.size 0 .none->h'.IsTupleIter s.heap.objs.size l 0->h'.objs.size=s.heap.objs.size+2 ->
   (∀b o,s.heap.get? b=some o->h'.get? b=some o)->Q (.ref (s.heap.objs.size+1)) {s with heap:=h'}) :
  wpAny (model prog w) A (call (.type "enumerate") [.ref l]) Q E s:=by
 refine callType_new F.called_enumerate (by decide) (F.typeCall_enumerate_1 _) (F.newCall_enumerate_1 _) (fun obj=>F.args_object_init_2 obj _) F.entry_enumerate_new
  (p0b l xs) ⟨hL,?_⟩
 have hz:(s.heap.push {cls:=.type "tuple_iterator",data:=.fields #[.ref l,.int 0 0]}).objs.size=s.heap.objs.size+1:=Heap.size_push ..
 show _/\_
 rw[hz]
 have he:IsEnum ((s.heap.push {cls:=.type "tuple_iterator",data:=.fields #[.ref l,.int 0 0]}).push
   {cls:=.type "enumerate",data:=.fields #[.none,.bool false,.ref s.heap.objs.size,rawInt 0,.none,.none]}) (s.heap.objs.size+1) s.heap.objs.size 0 .none:=by
  have:=Heap.get?_push_size (s.heap.push {cls:=.type "tuple_iterator",data:=.fields #[.ref l,.int 0 0]})
   (o:={cls:=.type "enumerate",data:=.fields #[.none,.bool false,.ref s.heap.objs.size,rawInt 0,.none,.none]}) rfl
  rw[hz]at this;exact this
 refine⟨⟨_,he,rfl⟩,h _ he ⟨_,Heap.get?_push_of_some _ (Heap.get?_push_size _ rfl),rfl,rfl⟩ (by rw[Heap.size_push,hz]) fun b o x=>Heap.get?_push_of_some _ (Heap.get?_push_of_some _ x)⟩
def Itf (K:PySem.W.Frag)(l:Addr)(n:Nat):It :=
 ⟨fun i H=>∃xs x,SqT K H l xs/\xs.length=n/\xs[i]? = some x,fun i H v H'=>∃p x,v = .ref p/\H p=none/\H'=upd H p (.tup [.int (i:Nat),x])/\∀xs,SqT K H l xs->xs[i]? = some x,
  fun i H=>n<=i/\∃xs,SqT K H l xs/\xs.length=n⟩
theorem r0f {P:Program}{w:World}{K:PySem.W.Frag}{elts:List Expr}{x1}{tpos:Pos}{e it l:Addr}{n:Nat}(ne:e≠it)(nl:l≠it)(nel:e≠l) :
  Turn P w K (.Tuple elts x1 tpos) (Itf K l n) [e,it] e (fun i h=>((∃old,IsEnum h e it (i:Nat) old)/\h.IsTupleIter it l i)/\i<=n) where
 mem:=by simp
 obj:=fun i h st b hb=>by
  obtain⟨⟨⟨old,he⟩,⟨o1,e1,c1,d1⟩⟩,_⟩:=st
  simp only[List.mem_cons,List.not_mem_nil,or_false]at hb
  rcases hb with rfl | rfl
  ·exact⟨_,he,fun v q=>by cases q⟩
  ·exact⟨o1,e1,fun v q=>by rw[d1]at q;cases q⟩
 keep:=fun i h h' st k=>by
  obtain⟨⟨⟨old,he⟩,h1⟩,hi⟩:=st
  exact⟨⟨⟨old,k e (by simp) _ he⟩,h1.at fun o q=>k it (by simp) o q⟩,hi⟩
 item:=by
  intro X hP hw hK hc i pins s σ H E I hf st hg
  subst hP hw hK
  obtain⟨xs,x,q1,hln,hx⟩:=hg
  obtain⟨⟨⟨old,he⟩,h1⟩,hin⟩:=st
  obtain⟨its,rv,p1,_⟩:=I.tuple q1
  have hxi:=(List.getElem?_eq_some_iff.mp hx).1
  obtain⟨u,hu,ru⟩:=rv.get hx
  have hlt:i<its.toArray.size:=by rw[List.size_toArray];exact(List.getElem?_eq_some_iff.mp hu).1
  refine wpAny_pyNext_enum_itemD (n0r (show X.A.in1.handled=none from I.ok.hd hc) it l nl its.toArray) he ⟨h1,p1⟩ hlt ne (by simp[ne,nel]) fun y h' tk hy a1 a2 a3 a4 hk=>?_
  have ey:y=u:=by
   have hy':its[i]? = some y:=by simpa using hy
   rw[hu]at hy';cases hy';rfl
  subst ey
  refine⟨_,rfl,wpAny_letOwnedTupleGo_enum (s:={s with heap:=h',toks:=tk+1}) a1 fun h2' he' hs'=>?_⟩
  have hs2:Heap.SameBut e h' h2':=hs'
  have ls:∀ {b o},s.heap.get? b=some o->b≠s.heap.objs.size:=fun e=>Nat.ne_of_lt (Heap.lt_size e)
  have es:e≠s.heap.objs.size:=ls he
  have up:∀b o,b∉[e,it]->s.heap.get? b=some o->h2'.get? b=some o:=fun b o hb q=>by
   simp only[List.mem_cons,List.not_mem_nil,or_false,not_or]at hb
   exact(hs2.2 b hb.1).trans (hk b o hb.1 hb.2 q)
  have I1:Inv X pins σ H {s with heap:=h2',toks:=tk+1}:=I.turns (t':=tk+1) up hf
  have fp:FpOk X pins H s.heap.objs.size:=I.fpOk (Nat.le_refl _) (I.hok.fresh (Nat.le_refl _))
  have g:h2'.get? s.heap.objs.size=some {cls:=.type "tuple",data:=.seq #[.int i tk,y]}:=(hs2.2 _ (Ne.symm es)).trans a3
  have I2:=I1.trackO (o:=.tup [.int (i:Nat),x]) fp ⟨by show 2<=sizeLine;decide,[.int i tk,y],.cons ⟨_,rfl⟩ (.cons ru .nil),_,g,rfl,_,rfl⟩
  refine⟨.ref s.heap.objs.size,upd H s.heap.objs.size (.tup [.int (i:Nat),x]),I2,rfl,⟨_,x,rfl,fp.1,rfl,fun zs hz=>by rw[I.tuple_inj hz q1];exact hx⟩,?_,fun b hb=>?_⟩
  ·refine⟨⟨⟨y,by simpa using he'⟩,?_⟩,by omega⟩
   obtain⟨o,q,r⟩:=a2.1;exact⟨o,(hs2.2 it (Ne.symm ne)).trans q,r⟩
  ·have hb':=(hf b hb).1
   have ne':b≠s.heap.objs.size:=by
    obtain⟨o1,e1,_⟩:=h1
    simp only[List.mem_cons,List.not_mem_nil,or_false]at hb
    rcases hb with rfl | rfl
    ·exact ls he
    ·exact ls e1
   rw[a0o ne'];exact hb'
 done:=by
  intro X hP hw hK hc i pins s σ H E I hf st hg
  subst hP hw hK
  obtain⟨hni,xs,q1,hl⟩:=hg
  obtain⟨⟨⟨old,he⟩,h1⟩,hin⟩:=st
  obtain⟨its,rv,p1,_⟩:=I.tuple q1
  have l1:=rv.length
  have ei:i=its.toArray.size:=by rw[List.size_toArray];omega
  subst ei
  refine wpAny_pyNext_enum_endD (n0r (show X.A.in1.handled=none from I.ok.hd hc) it l nl its.toArray) he ⟨h1,p1⟩ fun h' hk=>⟨rfl,I.turns (ch:=[e,it]) (t':=s.toks) (fun b o hb q=>?_) hf⟩
  simp only[List.mem_cons,List.not_mem_nil,or_false,not_or]at hb
  exact hk b o hb.2 q
 self:=fun _ _ _ _ _ st h=>by obtain⟨⟨⟨old,he⟩,_⟩,_⟩:=st;exact wpAny_pyIter_enum he h
def x0q (K:PySem.W.Frag)(t:TA):TI:=fun σ H R=>t σ H fun vs H1=>∃l xs,vs=[.ref l]/\SqT K H1 l xs/\R (Itf K l xs.length) H1
theorem q0e (K:PySem.W.Frag){X:Cx}{elts:List Expr}{x1}{tpos:Pos}{a:Expr}{ta:TA}{p pos:Pos}(hg:Gl X "enumerate")(hm:X.mg "enumerate" = none)(ha:PA X [a] ta)(hK:X.K=K:=by rfl)(hs:starEach [a] X.env=[(false,eval a X.env)]:=by rfl) :
  PI X (.Tuple elts x1 tpos) (.Call (.Name "enumerate" p) [a] [] pos) (x0q K ta):=by
 subst hK
 intro pins s σ H R I h
 refine Call_ (n0d I hg hm n0z (PyProof.Rows.callWith_type1 (thn (ha pos pins s σ H _ I h) fun us s1 ⟨vs,H1,I1,r1,q1⟩=>?_) hs rfl))
 obtain⟨l,xs,rfl,h1,q⟩:=q1
 obtain⟨u,rfl,ru⟩:=m0h r1
 cases ru
 obtain⟨its,_,p1,_⟩:=I1.tuple h1
 have lt:l<s1.heap.objs.size:=by obtain⟨o,e,_⟩:=id p1;exact Heap.lt_size e
 refine r0x p1 fun h' he hi hsz hk=>?_
 refine wpAny_pyIter_enum he ?_
 refine⟨_,_,_,_,H1,rfl,I1.kept (t':=s1.toks) hk,r0f (show s1.heap.objs.size+1≠s1.heap.objs.size by omega) (Nat.ne_of_lt lt) (Ne.symm (Nat.ne_of_lt (Nat.lt_succ_of_lt lt))),⟨⟨⟨_,he⟩,hi⟩,Nat.zero_le _⟩,fun b hb=>?_,q⟩
 have le:s1.heap.objs.size<=b:=by
  simp only[List.mem_cons,List.not_mem_nil,or_false]at hb
  rcases hb with rfl | rfl <;> omega
 exact I1.fpOk le (I1.hok.fresh le)
section
variable {K:PySem.W.Frag}{ts:TA}{as:AA}
theorem v0l {S:Addr->Prop}{H:Hp}{l:Addr}{vs:List V}{ds:List D}(al:∀a,S a->H a≠none)(h1:SqT K H l vs)(r1:RepDs K (hid H S) vs ds):WkAt K S H (Itf K l vs.length) (i0w 0 ds):=by
 intro k
 constructor
 ·intro d e
  obtain⟨x,ex,rfl⟩:=g0r e
  rw[Nat.zero_add]
  obtain⟨v,e1,rv⟩:=r1.get ex
  refine⟨⟨vs,v,h1,rfl,e1⟩,fun z H' ⟨p,a,ez,hp,eH,ha⟩=>?_⟩
  have a1:=ha vs h1
  rw[e1]at a1
  cases a1
  subst eH ez
  have sm:Same H (upd H p (.tup [.int (k:Nat),v])):=(Same.refl H).new hp
  have sm':Same (hid H S) (hid (upd H p (.tup [.int (k:Nat),v])) S):=a0y fun a o e n=>⟨sm a o e,n⟩
  refine⟨sm,?_⟩
  unfold RepD
  exact⟨p,[.int (k:Nat),v],rfl,(f0r (fun z=>al p z hp) b0i),.cons (by unfold RepD;rfl) (.cons (rv.same sm') .nil)⟩
 ·intro z
  rw[g0q]at z
  exact⟨by rw[r1.length];exact z,vs,h1,rfl⟩
def d1j (as:AA):AI:=fun ρ q=>as ρ fun rs ρ1=>match rs with
 | [.d (.tup ds)]=>q (i0w 0 ds) (fun _=>True) ρ1
 | _=>False
theorem j0u {pin:Nat->Bool}(h:TAok K ts as):TIok K pin (x0q K ts) (d1j as):=by
 intro F σ ρ H q Rk r ha k
 refine h F σ ρ H _ _ r ha fun rs ρ1 vs H1 h1 r1 i1 k1=>?_
 split at h1
 ·rename_i ds
  obtain⟨x,rfl,ix⟩:=i1.one
  have rd:RepD K _ x (.tup ds):=ix
  unfold RepD at rd
  obtain⟨a,vs,rfl,sq,rd⟩:=rd
  refine⟨a,vs,rfl,b0m.seqT sq.sq,k _ _ _ _ _ h1 r1 k1 fun σ2 ρ2 H2 sm sv pn al hc=>?_⟩
  exact v0l (fun a z=>(al a z).1) (b0m.seqT (sm.seqT sq.sq)) (rd.same sm)
 ·exact h1.elim
end
end L2
namespace L2
open PySem PySem.Spec PyProof.Rows PySem.W
end L2
namespace L2
open PySem PySem.Spec PyProof.Rows PySem.W Builtin Builtin.ObjectAttr
end L2
namespace L2
open PySem PySem.Spec PyProof.Rows PySem.W
end L2
namespace L2
open PySem PySem.Spec PyProof.Rows
section
variable {P:Program}{w:World}{A:Around}{R:Result->Shared->Prop}{s:Shared}
theorem l0y (elt tg iter tg2 iter2:Expr)(ifs ifs2:List Expr)(scope:Scope)(pos:Pos)(it acc:Value)(env:Env) :
  compTurn (.ListComp elt [⟨tg,iter,ifs,0⟩,⟨tg2,iter2,ifs2,0⟩] scope pos) 0 it acc env=(do
   standAt iter.pos
   match <- pyNext it with
   | none=>pure (.done .next)
   | some v =>
    letOwnedTupleGo tg it v
    assign tg env v
    let mut ok:=true
    for c in ifs do
     if ok then ok <- isTrue c env (eval c env)
    if ok then
     let x <- eval iter2 env
     standAt iter2.pos
     let x <- foldedSetIterable iter2 env x
     let _ <- runOwn (.compStart (.ListComp elt [⟨tg,iter,ifs,0⟩,⟨tg2,iter2,ifs2,0⟩] scope pos) 1 (<- holding [x] (pyIter x)) acc env) env
    again (.compLoop (.ListComp elt [⟨tg,iter,ifs,0⟩,⟨tg2,iter2,ifs2,0⟩] scope pos) 0 it acc env)):=by rfl
theorem l0x (elt tg iter tg2 iter2:Expr)(ifs ifs2:List Expr)(scope:Scope)(pos:Pos)(it acc:Value)(env:Env) :
  compTurn (.ListComp elt [⟨tg,iter,ifs,0⟩,⟨tg2,iter2,ifs2,0⟩] scope pos) 1 it acc env=(do
   standAt iter2.pos
   match <- pyNext it with
   | none=>pure (.done .next)
   | some v =>
    letOwnedTupleGo tg2 it v
    assign tg2 env v
    let mut ok:=true
    for c in ifs2 do
     if ok then ok <- isTrue c env (eval c env)
    if ok then
     (do let _ <- call (.builtin "list.append") [acc,<- eval elt env])
    again (.compLoop (.ListComp elt [⟨tg,iter,ifs,0⟩,⟨tg2,iter2,ifs2,0⟩] scope pos) 1 it acc env)):=by rfl
abbrev b1e (M:Model)(A:Around)(ifs:List Expr)(env:Env)(Q:Bool->Shared->Prop)(s:Shared):Prop :=
 wpAny M A (forIn ifs true fun c r=>if r=true then do let ok <- isTrue c env (eval c env);pure (ForInStep.yield ok)else pure (ForInStep.yield r)) Q (fun _ _=>False) s
theorem u0w {elt tg iter tg2 iter2:Expr}{ifs ifs2:List Expr}{scope:Scope}{pos:Pos}{it acc:Value}{env:Env}(J:Nat->Shared->Prop)
  (turn:∀n s,J n s->wpAny (model P w) A (pyNext it) (fun r s1=>match r with
   | none=>R (.ok .next) s1
   | some v=>wpAny (model P w) A (letOwnedTupleGo tg2 it v) (fun _ s2=>wpAny (model P w) A (assign tg2 env v) (fun _ s3 =>
     b1e (model P w) A ifs2 env (fun ok s4 =>
      if ok=true then wpAny (model P w) A (eval elt env) (fun x s5=>wpAny (model P w) A (call (.builtin "list.append") [acc,x]) (fun _ s6=>∃m,m<n/\J m s6) (fun _ _=>False) s5) (fun _ _=>False) s4
      else ∃m,m<n/\J m s4) s3) (fun _ _=>False) s2) (fun _ _=>False) s1) (fun _ _=>False) s)
  (n:Nat) (h:J n s):codeAny (model P w) A (.compLoop (.ListComp elt [⟨tg,iter,ifs,0⟩,⟨tg2,iter2,ifs2,0⟩] scope pos) 1 it acc env) R s:=by
 have no:∀ {α:Type} {t:Sem α} {Q Q':α->Shared->Prop} {E:Value->Shared->Prop} {s:Shared},wpAny (model P w) A t Q (fun _ _=>False) s->(∀a s,Q a s->Q' a s)->wpAny (model P w) A t Q' E s :=
  fun h hq=>wpAny_mono h hq fun _ _ f=>f.elim
 refine codeAny_loop rfl J (fun n s hJ=>?_) n h
 show wpAny _ A ((compTurn (.ListComp elt [⟨tg,iter,ifs,0⟩,⟨tg2,iter2,ifs2,0⟩] scope pos) 1 it acc env).onRaise (fun x=>do noteFrame x env;theTreesLotGoes x)) _ _ s
 refine wpAny_noted ?_
 rw[l0x]
 refine wpAny_bind (wpAny_standAt (wpAny_bind (no (turn n s hJ) fun r s1 h1=>?_)))
 cases r with
 | none=>exact wpAny_pure h1
 | some v =>
  refine wpAny_bind (no h1 fun _ s2 h2=>wpAny_bind (no h2 fun _ s3 h3=>wpAny_bind (no h3 fun ok s4 h4=>?_)))
  cases ok with
  | false=>exact wpAny_pure ⟨rfl,h4⟩
  | true=>exact wpAny_bind (wpAny_bind (no h4 fun x s5 h5=>wpAny_bind (no h5 fun _ s6 h6=>wpAny_pure (wpAny_pure ⟨rfl,h6⟩))))
theorem u0x {elt tg iter tg2 iter2:Expr}{ifs ifs2:List Expr}{scope:Scope}{pos:Pos}{it acc:Value}{env:Env}(J:Nat->Shared->Prop)(hf:∀x,foldedSetIterable iter2 env x=pure x)
  (turn:∀n s,J n s->wpAny (model P w) A (pyNext it) (fun r s1=>match r with
   | none=>R (.ok .next) s1
   | some v=>wpAny (model P w) A (letOwnedTupleGo tg it v) (fun _ s2=>wpAny (model P w) A (assign tg env v) (fun _ s3 =>
     b1e (model P w) A ifs env (fun ok s4 =>
      if ok=true then wpAny (model P w) A (eval iter2 env) (fun x s5=>wpAny (model P w) A (pyIter x) (fun itv s6 =>
       codeAny (model P w) A (.compStart (.ListComp elt [⟨tg,iter,ifs,0⟩,⟨tg2,iter2,ifs2,0⟩] scope pos) 1 itv acc env) (fun r s7=>r = .ok .next/\∃m,m<n/\J m s7) s6) (fun _ _=>False) s5) (fun _ _=>False) s4
      else ∃m,m<n/\J m s4) s3) (fun _ _=>False) s2) (fun _ _=>False) s1) (fun _ _=>False) s)
  (n:Nat) (h:J n s):codeAny (model P w) A (.compLoop (.ListComp elt [⟨tg,iter,ifs,0⟩,⟨tg2,iter2,ifs2,0⟩] scope pos) 0 it acc env) R s:=by
 have no:∀ {α:Type} {t:Sem α} {Q Q':α->Shared->Prop} {E:Value->Shared->Prop} {s:Shared},wpAny (model P w) A t Q (fun _ _=>False) s->(∀a s,Q a s->Q' a s)->wpAny (model P w) A t Q' E s :=
  fun h hq=>wpAny_mono h hq fun _ _ f=>f.elim
 refine codeAny_loop rfl J (fun n s hJ=>?_) n h
 show wpAny _ A ((compTurn (.ListComp elt [⟨tg,iter,ifs,0⟩,⟨tg2,iter2,ifs2,0⟩] scope pos) 0 it acc env).onRaise (fun x=>do noteFrame x env;theTreesLotGoes x)) _ _ s
 refine wpAny_noted ?_
 rw[l0y]
 refine wpAny_bind (wpAny_standAt (wpAny_bind (no (turn n s hJ) fun r s1 h1=>?_)))
 cases r with
 | none=>exact wpAny_pure h1
 | some v =>
  refine wpAny_bind (no h1 fun _ s2 h2=>wpAny_bind (no h2 fun _ s3 h3=>wpAny_bind (no h3 fun ok s4 h4=>?_)))
  cases ok with
  | false=>exact wpAny_pure ⟨rfl,h4⟩
  | true =>
   refine wpAny_bind (no h4 fun x s5 h5=>wpAny_bind (wpAny_standAt (wpAny_bind (wpAny_of_eq (hf x) (wpAny_bind (wpAny_holding (no h5 fun itv s6 h6=>?_)))))))
   refine wpAny_bind (wpAny_runOwn (codeAny_mono h6 fun r s7 h7=>?_))
   obtain⟨rfl,h7⟩:=h7
   exact wpAny_pure ⟨rfl,h7⟩
theorem j0s {elt tg iter tg2 iter2:Expr}{ifs ifs2:List Expr}{scope:Scope}{pos:Pos}{it acc:Value}{env:Env}
  (h0:codeAny (model P w) A (.compLoop (.ListComp elt [⟨tg,iter,ifs,0⟩,⟨tg2,iter2,ifs2,0⟩] scope pos) 1 it acc env) R s)
  (h:wpAny (model P w) A (pyIter it) (fun it' s'=>codeAny (model P w) A (.compLoop (.ListComp elt [⟨tg,iter,ifs,0⟩,⟨tg2,iter2,ifs2,0⟩] scope pos) 1 it' acc env) R s') (notedBy (model P w) A env fun x s'=>R (.error x) s') s) :
  codeAny (model P w) A (.compStart (.ListComp elt [⟨tg,iter,ifs,0⟩,⟨tg2,iter2,ifs2,0⟩] scope pos) 1 it acc env) R s:=by
 refine codeAny_of_tree ?_
 show wpAny _ _ ((compStart (.ListComp elt [⟨tg,iter,ifs,0⟩,⟨tg2,iter2,ifs2,0⟩] scope pos) 1 it acc env).onRaise (fun x=>do noteFrame x env;standAt theWindowsPlace)) _ _ s
 refine wpAny_notedAt ?_
 unfold compStart
 show wpAny _ _ (ask>>=_) _ _ s
 refine wpAny_bind (wpAny_askSetting (wpAny_ite ?_))
 split
 ·first
   | exact wpAny_bind (wpAny_pure (wpAny_pure (And.intro rfl h0)))
   | exact wpAny_pure (And.intro rfl h0)
 ·first
   | exact wpAny_bind (wpAny_rule (wpAny_bind (wpAny_standAt (wpAny_bind (wpAny_mono h (fun it' s' h'=>wpAny_pure (And.intro rfl h')) fun _ _ x=>x)))))
   | (refine wpAny_bind (wpAny_rule ?_);show wpAny _ _ (standAt iter2.pos>>=_) _ _ s;exact wpAny_bind (wpAny_standAt (wpAny_bind (wpAny_mono h (fun it' s' h'=>wpAny_pure (And.intro rfl h')) fun _ _ x=>x))))
end
def a1k (J:It)(g:TG)(tc:TT)(te:TE)(N:List V->Hp->Prop)(σ:St)(ys0:List V)(H1:Hp):Prop:=∃W:Nat->Nat->List V->Hp->Prop,(∃m,W 0 m ys0 H1)/\∀i m ys H,W i m ys H ->
 (J.stop i H/\N ys H) ∨
 (J.go i H/\ys.length<sizeLine/\∃N2:List V->Hp->Prop,(∀zs H',N2 zs H'->∃m',m'<m/\W (i+1) m' zs H')/\∀x H',J.yld i H x H'->g x σ H' fun σ2 H2=>(σ2.length=σ.length/\∀(j:Nat) v,σ[j]? = some (some v)->σ2[j]? = some (some v))/\tc σ2 H2 fun b H3 =>
  if b=true then te σ2 H3 fun v H4=>N2 (ys++[v]) H4 else N2 ys H3)
def y0b (J:It)(n:Nat)(js:List Nat)(g:TG)(tc:TT)(wi2:TI)(g2:TG)(tc2:TT)(te:TE)(Q:VK)(σ:St)(H1:Hp):Prop:=∃W:Nat->Nat->List V->Hp->Prop,(∃m,W 0 m [] H1)/\∀i m ys H,W i m ys H ->
 (J.stop i H/\ys.length<=sizeLine/\∀l,H l=none->Q (.ref l) (upd H l (.lst ys))) ∨
 (J.go i H/\∃N:List V->Hp->Prop,(∀zs H',N zs H'->∃m',m'<m/\W (i+1) m' zs H')/\∀x H',J.yld i H x H'->g x (bst n σ js) H' fun σ2 H2=>σ2.drop n=capt σ js/\tc σ2 H2 fun b H3 =>
  if b=true then wi2 σ2 H3 fun J2 H4=>a1k J2 g2 tc2 te N σ2 ys H4 else N ys H3)
def x0j (n:Nat)(js:List Nat)(wi:TI)(g:TG)(tc:TT)(wi2:TI)(g2:TG)(tc2:TT)(te:TE):TE:=fun σ H Q=>wi σ H fun J H1=>y0b J n js g tc wi2 g2 tc2 te Q σ H1
section
variable {Y:Cx}
theorem r0q {elt tg iter tg2 iter2:Expr}{ifs ifs2:List Expr}{scope:Scope}{pos:Pos}{g2:TG}{tc2:TT}{te:TE}{N:List V->Hp->Prop}{D:Addr}{pl:List (Addr×Obj)}{σ:St}{itv:Value}{ys:List V}{its:List Value}{k:Nat}{s:Shared}
  {RR:Result->Shared->Prop} (xe:Y.xe=fun _ _=>False) (hc:Y.calm=true) (hg:PG Y tg2 g2) (ht:PTs Y ifs2 tc2) (he:PE Y elt te)
  (szD:Y.s₀.heap.objs.size<=D) (neDL:D≠Y.env.locals) (notFs:D∉Y.fs) (clB:∀x d,Y.env.cells.lookup x=some d->d≠D) (plD:∀p∈Y.pn++pl,p.1≠D)
  (h:PIE Y ((D,{cls:=.type "list",data:=.seq its.toArray k})::pl) σ tg2 (fun J H1=>a1k J g2 tc2 te N σ ys H1) itv s) (r0:Vals ys its)
  (hR:∀zs its' k' H' s',Inv Y pl σ H' s'->Vals zs its'->s'.heap.get? D=some {cls:=.type "list",data:=.seq its'.toArray k'}->H' D=none->N zs H'->RR (.ok .next) s') :
  codeAny (model Y.prog Y.w) Y.A (.compStart (.ListComp elt [⟨tg,iter,ifs,0⟩,⟨tg2,iter2,ifs2,0⟩] scope pos) 1 itv (.ref D) Y.env) RR s:=by
 obtain⟨it,fp,tn,J,H2,rfl,I2,T,st2,f2,W,⟨m0,w0⟩,turn⟩:=h
 have plN:∀p∈pl,p.1≠D:=fun p hp=>plD p (List.mem_append_right _ hp)
 have fpD:∀b∈fp,b≠D:=fun b hb=>((f2 b hb).2.2.2.2.2 (D,{cls:=.type "list",data:=.seq its.toArray k}) (List.mem_append_right _ (List.mem_cons_self ..))).symm
 have p0:=I2.pin (D,{cls:=.type "list",data:=.seq its.toArray k}) (List.mem_append_right _ (List.mem_cons_self ..))
 have f2':∀(its':List Value) (k':Nat) {H':Hp},(∀b∈fp,H' b=none)->∀b∈fp,FpOk Y ((D,{cls:=.type "list",data:=.seq its'.toArray k'})::pl) H' b:=fun its' k' {H'} hn b hb=>by
  obtain⟨f0,f1,f3,f4,f5,f6⟩:=f2 b hb
  refine⟨hn b hb,f1,f3,f4,f5,fun p hp=>?_⟩
  rcases List.mem_append.mp hp with z | z
  ·exact f6 p (List.mem_append_left _ z)
  ·rcases List.mem_cons.mp z with z | z
   ·rw[z];exact(fpD b hb).symm
   ·exact f6 p (List.mem_append_right _ (List.mem_cons_of_mem _ z))
 have loop:codeAny (model Y.prog Y.w) Y.A (.compLoop (.ListComp elt [⟨tg,iter,ifs,0⟩,⟨tg2,iter2,ifs2,0⟩] scope pos) 1 (.ref it) (.ref D) Y.env) RR s:=by
  refine u0w (fun n s'=>∃(i:Nat) (ys:List V) (its:List Value) (k:Nat) (H':Hp),Inv Y pl σ H' s'/\tn i s'.heap/\(∀b∈fp,H' b=none)/\H' D=none/\Vals ys its /\
   s'.heap.get? D=some {cls:=.type "list",data:=.seq its.toArray k}/\W i n ys H') ?_ m0 ⟨0,ys,its,k,H2,I2.pins_of fun p hp=>I2.pin p (List.mem_append_right _ (List.mem_cons_of_mem _ hp)),st2,fun b hb=>(f2 b hb).1,p0.2.1,r0,p0.1,w0⟩
  rintro n s3 ⟨i,ys,its,k,H3,I3,st3,fr3,hD3,r3,g3,w3⟩
  have I3p:Inv Y ((D,{cls:=.type "list",data:=.seq its.toArray k})::pl) σ H3 s3:=I3.pins_of fun p hp=>by
   rcases List.mem_cons.mp hp with z | z
   ·subst z
    exact⟨g3,hD3,neDL,notFs,fun v z=>by cases z⟩
   ·exact I3.pin p (List.mem_append_right _ z)
  have f3:=f2' its k fr3
  rcases turn i n ys H3 w3 with⟨stop,qn⟩ | ⟨go,hz,N2,hN,step⟩
  ·refine thn (T.done Y rfl rfl rfl hc i _ s3 _ H3 (fun _ _=>False) I3p f3 st3 stop) fun r s4 ⟨hr,I4⟩=>?_
   subst hr
   have g4:=I4.pin (D,{cls:=.type "list",data:=.seq its.toArray k}) (List.mem_append_right _ (List.mem_cons_self ..))
   exact hR ys its k H3 s4 (I4.pins_of fun p hp=>I4.pin p (List.mem_append_right _ (List.mem_cons_of_mem _ hp))) r3 g4.1 hD3 qn
  ·refine thn (T.item Y rfl rfl rfl hc i _ s3 _ H3 (fun _ _=>False) I3p f3 st3 go) fun r s4 ⟨u,hr,h4⟩=>?_
   subst hr
   refine thn h4 fun _ s5 ⟨x,H5,I5,r5,y5,st5,fr5⟩=>?_
   have I5':=I5.pinned (f2' its k fr5) (T.obj _ _ st5)
   refine thn (xe▸hg _ s5 _ H5 x u _ I5' r5 (step x H5 y5)) fun _ s6 ⟨σ6,H6,I6,⟨l6,d6⟩,q6⟩=>?_
   refine thn (xe▸ht _ s6 σ6 H6 _ I6 q6) fun ok s7 ⟨H7,I7,q7⟩=>?_
   have after:∀ {s8:Shared} {H8:Hp},Inv Y ((D,{cls:=.type "list",data:=.seq its.toArray k})::pl++e0z fp s5.heap) σ6 H8 s8 ->
     s8.heap.get? D=some {cls:=.type "list",data:=.seq its.toArray k}/\H8 D=none/\tn (i+1) s8.heap/\(∀b∈fp,H8 b=none)/\Inv Y pl σ H8 s8:=fun{s8 H8} I8=>by
    have p8:=I8.pin (D,{cls:=.type "list",data:=.seq its.toArray k}) (List.mem_append_right _ (List.mem_append_left _ (List.mem_cons_self ..)))
    refine⟨p8.1,p8.2.1,T.keep _ _ _ st5 fun b hb o e=>(I8.pin (b,o) (List.mem_append_right _ (List.mem_append_right _ (b0s hb e)))).1,fun b hb=>?_,?_⟩
    ·obtain⟨o,e,_⟩:=T.obj _ _ st5 b hb
     exact(I8.pin (b,o) (List.mem_append_right _ (List.mem_append_right _ (b0s hb e)))).2.1
    ·exact(I8.pins_of (pins':=pl) fun p hp=>I8.pin p (List.mem_append_right _ (List.mem_append_left _ (List.mem_cons_of_mem _ hp)))).weak l6.symm d6
   cases ok with
   | false =>
    rw[if_neg Bool.false_ne_true]at q7 ⊢
    obtain⟨m',hm,w7⟩:=hN _ _ q7
    obtain⟨a1,a2,a3,a4,a5⟩:=after I7
    exact⟨m',hm,i+1,ys,its,k,H7,a5,a3,a4,a2,r3,a1,w7⟩
   | true =>
    rw[if_pos rfl]at q7 ⊢
    refine thn (xe▸he _ s7 σ6 H7 _ I7 q7) fun u8 s8 ⟨v8,H8,I8,r8,n8⟩=>?_
    obtain⟨m',hm,w8⟩:=hN _ _ n8
    obtain⟨a1,a2,a3,a4,a5⟩:=after I8
    have hsz:its.toArray.size<sizeLine:=by rw[List.size_toArray,<- r3.length];exact hz
    refine call_meets F.slot_list_append ⟨_,a1,rfl⟩ F.entry_list_append (F.args_list_append_2 _ _) (PySem.list_append D its.toArray k u8 (Nat.le_of_lt hsz)) ⟨a1,?_⟩
    have q9:=PySem.IsL.update a1 (fun xs=>xs.push u8)
    have sb:Heap.SameBut D s8.heap (s8.heap.update D (Obj.mapSeq fun xs=>xs.push u8)):=Heap.SameBut.update ..
    have I9:=a5.young sb a2 szD neDL clB plD
    have fin:∃k',(s8.heap.update D (Obj.mapSeq fun xs=>xs.push u8)).get? D=some {cls:=.type "list",data:=.seq (its++[u8]).toArray k'}:=⟨_,by
     rw[show(its++[u8]).toArray=its.toArray.push u8 by simp]
     exact q9⟩
    obtain⟨k',fin⟩:=fin
    exact⟨m',hm,i+1,ys++[v8],its++[u8],k',H8,I9,T.keep _ _ _ a3 (fun b hb o e=>(sb.2 b (fpD b hb)).trans e),a4,a2,r3.append (.cons r8 .nil),fin,w8⟩
 exact j0s loop (T.self _ 0 _ _ _ st2 loop)
end
section
variable {X:Cx}
theorem p0l {elt tg iter tg2 iter2:Expr}{ifs ifs2:List Expr}{scope:Scope}{pos:Pos}{own:List Str}{js:List Nat}{g g2:TG}{tc tc2:TT}{wi2:TI}{te:TE}{Q:VK}{pins:List (Addr×Obj)}{σ:St}{s2:Shared}{itv:Value}{E:Value->Shared->Prop}
  {RR:Value->Addr->Result->Shared->Prop} (hc:X.calm=true) (B:Blk X scope own js) (hg:∀s H C fp,(own++capN X.N js).Nodup->PG (blk X scope (own++capN X.N js) s H C fp) tg g) (ht:∀s H C fp,PTs (blk X scope (own++capN X.N js) s H C fp) ifs tc)
  (hi2:∀s H C fp,PI (blk X scope (own++capN X.N js) s H C fp) tg2 iter2 wi2) (hg2:∀s H C fp,(own++capN X.N js).Nodup->PG (blk X scope (own++capN X.N js) s H C fp) tg2 g2) (ht2:∀s H C fp,PTs (blk X scope (own++capN X.N js) s H C fp) ifs2 tc2) (hs2:∀s H C fp x,foldedSetIterable iter2 (blk X scope (own++capN X.N js) s H C fp).env x=pure x)
  (he:∀s H C fp,PE (blk X scope (own++capN X.N js) s H C fp) elt te)
  (h:PIE X pins σ tg (fun J H1=>y0b J own.length js g tc wi2 g2 tc2 te Q σ H1) itv s2)
  (hR:∀C acc s',v0k X pins σ Q C acc s'->RR acc C (.ok .next) s') :
  wpAny (model X.prog X.w) X.A (newList []) (fun acc s3=>wpAny (model X.prog X.w) X.A (newFunctionEnv scope X.env.globals (d0c scope X.env) [] X.env.qual none .none (some X.env)) (fun cenv s4 =>
   codeAny (model X.prog X.w) X.A (.compStart (.ListComp elt [⟨tg,iter,ifs,0⟩,⟨tg2,iter2,ifs2,0⟩] scope pos) 0 itv acc {cenv with scope:=relabel scope X.env}) (RR acc cenv.locals) s4) E s3) E s2:=by
 obtain⟨it,fp,tn,J,H2,rfl,I2,T,st2,f2,W,⟨m0,w0⟩,turn⟩:=h
 refine wpAny_newObj_type (wpAny_newFunctionEnv B.nocell (by intro y hy;simp at hy) (fun h1 hns1 hsb1=>?_) B.kind)
 generalize hPu:s2.heap.push {cls:=.type "list",dict:=none,data:=.seq ([]:List Value).toArray}=Pu at hns1 hsb1 ⊢
 dsimp only at hns1 hsb1 ⊢
 have hDC:Pu.objs.size=s2.heap.objs.size+1:=by rw[<- hPu,Heap.size_push]
 generalize hD:s2.heap.objs.size=D at hDC ⊢
 have gD:Pu.get? D=some {cls:=.type "list",dict:=none,data:=.seq ([]:List Value).toArray}:=by
  rw[<- hPu,<- hD];exact Heap.get?_push_size _ rfl
 generalize hC:Pu.objs.size=C at hns1 hsb1 hDC ⊢
 have ltDC:D<C:=by rw[hDC];exact Nat.lt_succ_self D
 have neDC:D≠C:=Nat.ne_of_lt ltDC
 have keep1:∀b o,s2.heap.get? b=some o->h1.get? b=some o:=fun b o e=>by
  have hb:b<D:=by rw[<- hD];exact Heap.lt_size e
  have hb2:b≠C:=Nat.ne_of_lt (Nat.lt_trans hb ltDC)
  refine(hsb1.2 b hb2).trans (Heap.get?_push_of_some _ ?_)
  rw[<- hPu]
  exact Heap.get?_push_of_some _ e
 have gD1:h1.get? D=some {cls:=.type "list",dict:=none,data:=.seq ([]:List Value).toArray}:=(hsb1.2 D neDC).trans (Heap.get?_push_of_some _ gD)
 have szD:s2.heap.objs.size<=D:=Nat.le_of_eq hD
 have szC:s2.heap.objs.size<=C:=Nat.le_trans szD (Nat.le_of_lt ltDC)
 have old:∀ {b:Addr},b<s2.heap.objs.size->b≠D/\b≠C:=fun hb=>⟨Nat.ne_of_lt (Nat.lt_of_lt_of_le hb szD),Nat.ne_of_lt (Nat.lt_of_lt_of_le hb szC)⟩
 have fpo:∀b∈fp,∃o,s2.heap.get? b=some o:=fun b hb=>let ⟨o,e,_⟩:=T.obj 0 _ st2 b hb;⟨o,e⟩
 have fpD:∀b∈fp,b≠D/\b≠C:=fun b hb=>by
  obtain⟨o,e⟩:=fpo b hb
  exact old (Heap.lt_size e)
 have clD:∀x d,X.env.cells.lookup x=some d->d≠D/\d≠C:=fun x d e=>by
  obtain⟨v,o,ho,_⟩:=I2.cell x d e
  exact old (Heap.lt_size ho)
 have pinD:∀p∈X.pn++pins,p.1≠D/\p.1≠C:=fun p hp=>by
  exact old (Heap.lt_size (I2.pin p hp).1)
 have locD:D≠X.env.locals/\C≠X.env.locals:=by
  exact⟨(old I2.lt).1.symm,(old I2.lt).2.symm⟩
 let Y:=blk X scope (own++capN X.N js) s2 H2 C fp
 have IB:Inv Y [] (bst own.length σ js) H2 {s2 with heap:=h1,toks:=s2.toks+([]:List (Str×Value)).length}:=v0a B I2 f2 fpo szC hns1 keep1
 have fpB:∀ {H':Hp} {pl:List (Addr×Obj)},(∀b∈fp,H' b=none)->(∀p∈pl,p.1=D)->∀b∈fp,FpOk Y pl H' b:=fun{H' pl} hn hp b hb=>by
  obtain⟨f0,f1,f3,f4,f5,f6⟩:=f2 b hb
  refine⟨hn b hb,(fpD b hb).2,fun z=>?_,.inl hb,fun x c e=>f5 x c (c0v e),fun p q=>?_⟩
  ·rcases List.mem_cons.mp (I2.stkSub b z)with z | z
   ·exact f1 z
   ·exact f3 z
  ·have q':p∈pl:=by simpa [Y,blk] using q
   rw[hp p q']
   exact(fpD b hb).1.symm
 have clB:∀x d,Y.env.cells.lookup x=some d->d≠D:=fun x d e=>(clD x d (c0v e)).1
 have notFs:D∉Y.fs:=fun z=>by
  obtain⟨_,o,ho,_⟩:=IB.ok.funs.mem z
  exact(old (Heap.lt_size (show s2.heap.get? D=some o from ho))).1 rfl
 have loop:∀s3:Shared,s3={s2 with heap:=h1,toks:=s2.toks+([]:List (Str×Value)).length} ->
   codeAny (model X.prog X.w) X.A (.compLoop (.ListComp elt [⟨tg,iter,ifs,0⟩,⟨tg2,iter2,ifs2,0⟩] scope pos) 0 (.ref it) (.ref D) (compEnvC scope (d0c scope X.env) C X.env)) (RR (.ref D) C) s3:=by
  rintro s3 rfl
  refine u0x (fun n s'=>∃(i:Nat) (ys:List V) (its:List Value) (k:Nat) (H':Hp),Inv Y [] (bst own.length σ js) H' s'/\tn i s'.heap/\(∀b∈fp,H' b=none)/\H' D=none/\Vals ys its /\
   s'.heap.get? D=some {cls:=.type "list",data:=.seq its.toArray k}/\W i n ys H') (hs2 s2 H2 C fp) ?_ m0 ⟨0,[],[],0,H2,IB,T.keep 0 _ _ st2 (fun b hb o e=>keep1 b o e),fun b hb=>(f2 b hb).1,I2.hok.fresh szD,.nil,gD1,w0⟩
  rintro n s3 ⟨i,ys,its,k,H3,I3,st3,fr3,hD3,r3,g3,w3⟩
  have I3p:Inv Y [(D,{cls:=.type "list",data:=.seq its.toArray k})] (bst own.length σ js) H3 s3:=I3.pins_of fun p hp=>by
   have e:p=(D,{cls:=.type "list",data:=.seq its.toArray k}):=by simpa using hp
   subst e
   exact⟨g3,hD3,neDC,notFs,fun v z=>by cases z⟩
  have f3:∀b∈fp,FpOk Y [(D,{cls:=.type "list",data:=.seq its.toArray k})] H3 b:=fpB fr3 fun p hp=>by
   have e:p=(D,{cls:=.type "list",data:=.seq its.toArray k}):=by simpa using hp
   rw[e]
  rcases turn i n ys H3 w3 with⟨stop,hz,qn⟩ | ⟨go,N,hN,step⟩
  ·refine thn (T.done Y rfl rfl rfl hc i _ s3 _ H3 (fun _ _=>False) I3p f3 st3 stop) fun r s4 ⟨hr,I4⟩=>?_
   subst hr
   refine hR C _ s4 ?_
   have g4:=(I4.pin (D,{cls:=.type "list",data:=.seq its.toArray k}) (by simp[Y,blk])).1
   obtain⟨m,hn4,_⟩:=id I4.loc
   have un:Un (frs X.stack) fp H2 H3 s2.heap s4.heap:=I4.base
   have I5:Inv X pins σ H3 s4:=I2.call' I4.os un I4.hok I4.bare fun b hb=>let ⟨_,b1,_,b3,b4,b5⟩:=f2 b hb;⟨b3,b1,b4,b5⟩
   have I6:=I5.track (ys:=ys) (its:=its) (n:=k) hD3 (Nat.le_trans I2.sz szD) locD.1 (fun x d e=>(clD x d e).1) (fun p hp=>(pinD p hp).1) hz r3 g4
   refine⟨D,_,m,rfl,hn4,I6,?_,Nat.le_trans I2.sz szC,locD.2,fun x d e=>(clD x d e).2,fun p hp=>(pinD p hp).2,qn D hD3⟩
   rw[a0o (Ne.symm neDC)]
   exact I4.free
  ·refine thn (T.item Y rfl rfl rfl hc i _ s3 _ H3 (fun _ _=>False) I3p f3 st3 go) fun r s4 ⟨u,hr,h4⟩=>?_
   subst hr
   refine thn h4 fun _ s5 ⟨x,H5,I5,r5,y5,st5,fr5⟩=>?_
   have f5:∀b∈fp,FpOk Y [(D,{cls:=.type "list",data:=.seq its.toArray k})] H5 b:=fun b hb=>⟨fr5 b hb,(f3 b hb).2⟩
   have I5':=I5.pinned f5 (T.obj _ _ st5)
   refine thn (hg s2 H2 C fp B.nd _ s5 _ H5 x u _ I5' r5 (step x H5 y5)) fun _ s6 ⟨σ6,H6,I6,d6,q6⟩=>?_
   refine thn (ht s2 H2 C fp _ s6 σ6 H6 _ I6 q6) fun ok s7 ⟨H7,I7,q7⟩=>?_
   have after:∀ {s8:Shared} {H8:Hp} {its:List Value} {k:Nat},Inv Y ([(D,{cls:=.type "list",data:=.seq its.toArray k})]++e0z fp s5.heap) σ6 H8 s8 ->
     s8.heap.get? D=some {cls:=.type "list",data:=.seq its.toArray k}/\H8 D=none/\tn (i+1) s8.heap/\(∀b∈fp,H8 b=none)/\Inv Y [] (bst own.length σ js) H8 s8:=fun{s8 H8 its k} I8=>by
    have p8:=I8.pin (D,{cls:=.type "list",data:=.seq its.toArray k}) (by simp[Y,blk])
    refine⟨p8.1,p8.2.1,T.keep _ _ _ st5 fun b hb o e=>(I8.pin (b,o) (List.mem_append_right _ (List.mem_append_right _ (b0s hb e)))).1,fun b hb=>?_,?_⟩
    ·obtain⟨o,e,_⟩:=T.obj _ _ st5 b hb
     exact(I8.pin (b,o) (List.mem_append_right _ (List.mem_append_right _ (b0s hb e)))).2.1
    ·refine(I8.pins_of (pins':=[]) fun p hp=>absurd hp (by simp[Y,blk])).weak ?_ fun j v e=>?_
     ·rw[I8.len,g0b]
      show _=(own++capN X.N js).length
      unfold capN
      simp
     ·rcases Nat.lt_or_ge j own.length with z | z
      ·exfalso
       unfold bst at e
       rw[List.getElem?_append_left (by simpa using z),List.getElem?_replicate]at e
       split at e <;> cases e
      ·unfold bst at e
       rw[List.getElem?_append_right (by simpa using z),List.length_replicate,<- d6,List.getElem?_drop]at e
       rw[<- e]
       congr 1
       omega
   cases ok with
   | false =>
    rw[if_neg Bool.false_ne_true]at q7 ⊢
    obtain⟨m',hm,w7⟩:=hN _ _ q7
    obtain⟨a1,a2,a3,a4,a5⟩:=after I7
    exact⟨m',hm,i+1,ys,its,k,H7,a5,a3,a4,a2,r3,a1,w7⟩
   | true =>
    rw[if_pos rfl]at q7 ⊢
    refine thn (hi2 s2 H2 C fp _ s7 σ6 H7 _ I7 q7) fun v8 s8 h8=>thn h8 fun itv s9 h9=>?_
    refine r0q (Y:=Y) (pl:=e0z fp s5.heap) rfl hc (hg2 s2 H2 C fp B.nd) (ht2 s2 H2 C fp) (he s2 H2 C fp) szD neDC notFs clB (fun p hp=>?_) h9 r3 fun zs its' k' H' s' I' r' g' d' n'=>⟨rfl,?_⟩
    ·have hp':p∈e0z fp s5.heap:=by simpa [Y,blk] using hp
     exact(fpD p.1 (m0x hp').1).1
    ·obtain⟨m',hm,w8⟩:=hN _ _ n'
     have I'p:Inv Y ([(D,{cls:=.type "list",data:=.seq its'.toArray k'})]++e0z fp s5.heap) σ6 H' s':=I'.pins_of fun p hp=>by
      rcases List.mem_append.mp hp with z | z
      ·have e:p=(D,{cls:=.type "list",data:=.seq its'.toArray k'}):=by simpa using z
       subst e
       exact⟨g',d',neDC,notFs,fun v z=>by cases z⟩
      ·exact I'.pin p (List.mem_append_right _ z)
     obtain⟨a1,a2,a3,a4,a5⟩:=after I'p
     exact⟨m',hm,i+1,zs,its',k',H',a5,a3,a4,d',r',g',w8⟩
 exact codeAny_compStart_list (loop _ rfl) (T.self _ 0 _ _ _ (T.keep 0 _ _ st2 fun b hb o e=>keep1 b o e) (loop _ rfl))
theorem w0d {elt tg iter tg2 iter2:Expr}{ifs ifs2:List Expr}{scope:Scope}{pos:Pos}(own:List Str)(js:List Nat){wi wi2:TI}{g g2:TG}{tc tc2:TT}{te:TE}(hc:X.calm=true)(B:Blk X scope own js)(hi:PI X tg iter wi)
  (hg:∀s H C fp,(own++capN X.N js).Nodup->PG (blk X scope (own++capN X.N js) s H C fp) tg g) (ht:∀s H C fp,PTs (blk X scope (own++capN X.N js) s H C fp) ifs tc)
  (hi2:∀s H C fp,PI (blk X scope (own++capN X.N js) s H C fp) tg2 iter2 wi2) (hg2:∀s H C fp,(own++capN X.N js).Nodup->PG (blk X scope (own++capN X.N js) s H C fp) tg2 g2) (ht2:∀s H C fp,PTs (blk X scope (own++capN X.N js) s H C fp) ifs2 tc2) (he:∀s H C fp,PE (blk X scope (own++capN X.N js) s H C fp) elt te)
  (hs:∀x,foldedSetIterable iter X.env x=pure x:=by intro _;rfl) (hs2:∀s H C fp x,foldedSetIterable iter2 (blk X scope (own++capN X.N js) s H C fp).env x=pure x:=by intros;rfl):PE X (.ListComp elt [⟨tg,iter,ifs,0⟩,⟨tg2,iter2,ifs2,0⟩] scope pos) (x0j own.length js wi g tc wi2 g2 tc2 te):=by
 intro pins s σ H Q I h
 have hcl:closureFor scope X.env=pure (d0c scope X.env):=d0i fun x hx hf=>I.ok.has x.1 (B.free x hx hf)
 rw[eval_ListComp]
 refine wpAny_comprehension_free (use:=none) rfl hs hcl B.kind B.names (thn (hi pins s σ H _ I h) fun v s1 h1=>thn h1 fun itv s2 h2=>?_)
 refine p0l (RR:=fun acc C=>compPost (model X.prog X.w) X.A X.xe none (EP X pins σ Q) acc C) hc B hg ht hi2 hg2 ht2 hs2 he h2 fun C acc s' hb=>?_
 obtain⟨D,H',m,rfl,hn,I',c1,c2,c3,c4,c5,q⟩:=hb
 exact⟨m,hn,fun h' hs'=>⟨.ref D,H',I'.young hs' c1 c2 c3 c4 c5,rfl,q⟩⟩
end
def g0s (n2:Nat)(c:En->Prop)(g:AG)(tc:AT)(te:AE)(k:List D->En->Prop):List D->List D->En->Prop
 | [],acc,ρ=>c ρ/\k acc ρ
 | d::ds,acc,ρ=>c ρ/\acc.length<=1000000/\g d ρ fun ρ1=>tc ρ1 fun b ρ2=>if b=true then te ρ2 fun r ρ3=>sto [r.frz] ρ3 fun es ρ4=>g0s n2 c g tc te k ds (acc++es) (List.replicate n2 .un++ρ4.drop n2)else g0s n2 c g tc te k ds acc (List.replicate n2 .un++ρ2.drop n2)
def h0s (n2 n:Nat)(js:List Nat)(c:En->Prop)(g:AG)(tc:AT)(i2:AI)(g2:AG)(tc2:AT)(te:AE)(q:List D->En->Prop):List D->List D->En->Prop
 | [],acc,ρ=>c ρ/\acc.length<=1000000/\q acc ρ
 | d::ds,acc,ρ=>c ρ/\g d (blkE n js ρ) fun ρ1=>tc ρ1 fun b ρ2=>if b=true then i2 ρ2 fun ds2 c2 ρ3=>g0s n2 c2 g2 tc2 te (fun acc' ρ4=>h0s n2 n js c g tc i2 g2 tc2 te q ds acc' (back ρ (js.map R.o) (ρ4.drop n))) ds2 acc ρ3 else h0s n2 n js c g tc i2 g2 tc2 te q ds acc (back ρ (js.map R.o) (ρ2.drop n))
def d1k (n2 n:Nat)(js:List Nat)(i:AI)(g:AG)(tc:AT)(i2:AI)(g2:AG)(tc2:AT)(te:AE):AE:=fun ρ q=>i ρ fun ds c ρ1=>h0s n2 n js c g tc i2 g2 tc2 te (fun acc ρ2=>q (.f acc) ρ2) ds [] ρ1
section
variable {K:PySem.W.Frag}
theorem s0g {n2:Nat}{g2:TG}{tc2:TT}{te:TE}{ag2:AG}{atc2:AT}{ate:AE}(hg:TGok K (fun j=>decide (n2<=j)) g2 ag2)(hc:TTok K tc2 atc2)(he:TEok K te ate)
  {F:Fr} {σ:St} {ρ:En} {H:Hp} {J:It} {ds:List D} {c:En->Prop} {k:List D->En->Prop} {N:List V->Hp->Prop} {ys:List V} {acc:List D}
  (hpin:∀i a,F.pin i a->n2<=i) (hn:n2<=σ.length) (h0:σ=List.replicate n2 none++σ.drop n2) (r:Rel K F σ ρ H)
  (wk:∀ ρ2 H2,Same (hid H (hs F σ ρ)) (hid H2 (hs F σ ρ2))->(∀i,SvOk K (hid H2 (hs F σ ρ2)) H2 σ[i]? (gt ρ2 i))->(∀a,hs F σ ρ2 a->Nt H2 a)->c ρ2->WkAt K (hs F σ ρ2) H2 J ds)
  (rd:RepDs K (hid H (hs F σ ρ)) ys acc) (h:g0s n2 c ag2 atc2 ate k ds acc ρ)
  (kk:∀acc' ρ' ys' H',k acc' ρ'->Rel K F σ ρ' H'->Kp σ ρ ρ' H H'->RepDs K (hid H' (hs F σ ρ')) ys' acc'->N ys' H'):a1k J g2 tc2 te N σ ys H:=by
 refine⟨fun i m ys H'=>∃ ρ' acc,m=ds.length - i/\i<=ds.length/\Rel K F σ ρ' H'/\Kp σ ρ ρ' H H'/\RepDs K (hid H' (hs F σ ρ')) ys acc/\g0s n2 c ag2 atc2 ate k (ds.drop i) acc ρ',⟨ds.length,ρ,acc,rfl,Nat.zero_le _,r,.refl,rd,h⟩,?_⟩
 rintro i m ys H' ⟨ρ',acc,rfl,hl,r',k',rd,h'⟩
 have w:c ρ'->WkAt K (hs F σ ρ') H' J ds:=fun hc=>wk ρ' H' k'.vis r'.sl (fun a z=>w0k r' z) hc
 rcases Nat.lt_or_ge i ds.length with lt | ge
 ·right
  rw[List.drop_eq_getElem_cons lt]at h'
  unfold g0s at h'
  obtain⟨hcc,hz,h'⟩:=h'
  obtain⟨go,yld⟩:=(w hcc i).1 ds[i] (List.getElem?_eq_getElem lt)
  have yl:ys.length=acc.length:=rd.length
  refine⟨go,s0v (by omega),fun zs H2=>∃ ρ2 acc2,Rel K F σ ρ2 H2/\Kp σ ρ ρ2 H H2/\RepDs K (hid H2 (hs F σ ρ2)) zs acc2/\g0s n2 c ag2 atc2 ate k (ds.drop (i+1)) acc2 ρ2,
   fun zs H2 ⟨ρ2,acc2,a1,a2,a3,a5⟩=>⟨ds.length - (i+1),by omega,ρ2,acc2,rfl,lt,a1,a2,a3,a5⟩,fun x H2 hy=>?_⟩
  obtain⟨sm,rx⟩:=yld x H2 hy
  have k':Kp σ ρ ρ' H H2:=k'.trans ⟨fun a o e _=>sm a o e,fun _ h=>h⟩
  have rd:RepDs K (hid H2 (hs F σ ρ')) ys acc:=rd.same (a0y fun a o e n=>⟨sm a o e,n⟩)
  have r':=r'.grow sm
  refine hg F σ ρ' H2 x _ _ _ (fun i a h=>decide_eq_true (hpin i a h)) r' rx h' fun σ3 ρ3 h3 r3 l3 p3 o3=>?_
  have drop3:σ3.drop n2=σ.drop n2:=by
   apply List.ext_getElem?
   intro i
   rw[List.getElem?_drop,List.getElem?_drop]
   exact p3 (n2+i) (decide_eq_true (Nat.le_add_right ..))
  have ret:∀ ρ4 H4,Rel K F σ3 ρ4 H4->Kp σ3 ρ3 ρ4 H2 H4->Rel K F σ (List.replicate n2 .un++ρ4.drop n2) H4/\Kp σ ρ' (List.replicate n2 .un++ρ4.drop n2) H2 H4/\Same (hid H4 (hs F σ3 ρ4)) (hid H4 (hs F σ (List.replicate n2 .un++ρ4.drop n2))):=fun ρ4 H4 r4 k4=>by
   obtain⟨f1,f2⟩:=r4.forget (n:=n2) (by omega) hpin
   rw[drop3,<- h0]at f1 f2
   refine⟨f1,⟨fun a o e n=>k4.st a o e fun⟨j,hj,ej⟩=>?_,fun j hj=>?_⟩,f2⟩
   ·obtain⟨b1,b2⟩:=o3 j hj
    rw[b2]at ej
    exact n ⟨j,b1,ej⟩
   ·rw[n0k]at hj
    split at hj
    ·cases hj
    ·rename_i hnj
     rw[i0u,show n2+(j - n2)=j by omega]at hj
     exact(o3 j (k4.sb j hj)).1
  refine⟨⟨l3,fun j v e=>?_⟩,hc F σ3 ρ3 H2 _ _ r3 h3 fun b ρ4 H4 h4 r4 k4=>?_⟩
  ·rcases Nat.lt_or_ge j n2 with z | z
   ·exfalso
    rw[h0,List.getElem?_append_left (by simpa using z),List.getElem?_replicate]at e
    split at e <;> cases e
   ·rw[p3 j (decide_eq_true z)];exact e
  ·cases b with
   | false =>
    obtain⟨b1,b2,_⟩:=ret ρ4 H4 r4 k4
    exact⟨_,acc,b1,k'.trans b2,rd.same b2.vis,h4⟩
   | true =>
    refine he F σ3 ρ4 H4 _ _ r4 h4 fun r5 ρ5 v H5 h5 o5=>?_
    obtain⟨r5',k5,i5⟩:=o5.inF
    obtain⟨d,ρ6,h6,r6,k6,rv⟩:=s0r r5' i5 h5
    obtain⟨b1,b2,b3⟩:=ret ρ6 H5 r6 (k4.trans (k5.trans k6))
    exact⟨_,acc++[d],b1,k'.trans b2,(rd.same b2.vis).append (.one (rv.same b3)),h6⟩
 ·left
  rw[List.drop_eq_nil_of_le ge]at h'
  unfold g0s at h'
  obtain⟨hcc,h'⟩:=h'
  exact⟨(w hcc i).2 ge,kk acc ρ' ys H' h' r' k' rd⟩
theorem s0h {n2 n:Nat}{js:List Nat}{wi wi2:TI}{g g2:TG}{tc tc2:TT}{te:TE}{ai ai2:AI}{ag ag2:AG}{atc atc2:AT}{ate:AE}(hi:TIok K (fun _=>true) wi ai)(hg:TGok K (fun j=>decide (j<n2)||decide (n<=j)) g ag)(hc:TTok K tc atc)
  (hi2:TIok K (fun _=>true) wi2 ai2) (hg2:TGok K (fun j=>decide (n2<=j)) g2 ag2) (hc2:TTok K tc2 atc2) (he:TEok K te ate)
  (hn:n2<=n:=by decide) (hd:dis (js.map R.o)=true:=by rfl):TEok K (x0j n js wi g tc wi2 g2 tc2 te) (d1k n2 n js ai ag atc ai2 ag2 atc2 ate):=by
 intro F σ ρ H q Q r h k
 refine hi F σ ρ H _ _ r h fun ds c ρ1 J H1 h1 r1 k1 wk=>?_
 have hd':dis (blkR n js)=true:=by rw[m0b];exact hd
 refine⟨fun i m ys H'=>∃ ρ' acc,m=ds.length - i/\i<=ds.length/\Rel K F σ ρ' H'/\Kp σ ρ1 ρ' H1 H'/\RepDs K (hid H' (hs F σ ρ')) ys acc/\h0s n2 n js c ag atc ai2 ag2 atc2 ate (fun acc ρ2=>q (.f acc) ρ2) (ds.drop i) acc ρ',⟨ds.length,ρ1,[],rfl,Nat.zero_le _,r1,.refl,.nil,h1⟩,?_⟩
 rintro i m ys H' ⟨ρ',acc,rfl,hl,r',k',rd,h'⟩
 have w:c ρ'->WkAt K (hs F σ ρ') H' J ds:=fun hc=>wk σ ρ' H' k'.vis r'.sl (fun _ _ _ e=>e) (fun a z=>w0k r' z) hc
 have yl:ys.length=acc.length:=rd.length
 rcases Nat.lt_or_ge i ds.length with lt | ge
 ·right
  rw[List.drop_eq_getElem_cons lt]at h'
  unfold h0s at h'
  obtain⟨hcc,h'⟩:=h'
  obtain⟨go,yld⟩:=(w hcc i).1 ds[i] (List.getElem?_eq_getElem lt)
  refine⟨go,fun zs H2=>∃ ρ2 acc2,Rel K F σ ρ2 H2/\Kp σ ρ1 ρ2 H1 H2/\RepDs K (hid H2 (hs F σ ρ2)) zs acc2/\h0s n2 n js c ag atc ai2 ag2 atc2 ate (fun acc ρ2=>q (.f acc) ρ2) (ds.drop (i+1)) acc2 ρ2,
   fun zs H2 ⟨ρ2,acc2,a1,a2,a3,a5⟩=>⟨ds.length - (i+1),by omega,ρ2,acc2,rfl,lt,a1,a2,a3,a5⟩,fun x H2 hy=>?_⟩
  obtain⟨sm,rx⟩:=yld x H2 hy
  have r0':=r'
  have k':Kp σ ρ1 ρ' H1 H2:=k'.trans ⟨fun a o e _=>sm a o e,fun _ h=>h⟩
  have rd:RepDs K (hid H2 (hs F σ ρ')) ys acc:=rd.same (a0y fun a o e n=>⟨sm a o e,n⟩)
  have r':=r0'.grow sm
  have src:=q0x (K:=K) (F:=F) (σ:=σ) (ρ:=ρ') (H:=H2) n js
  have rb:=r'.sub src hd'
  have hs2:=s0q r' src
  rw[c0k]at rb hs2
  have pin0:∀i a,(f0m F σ ρ' H2 (bst n σ js) (blkE n js ρ')).pin i a->n<=i:=fun i a h=>by
   rcases h with h | h
   ·exact q0y h.1
   ·exact h.elim
  have hlen:(bst n σ js).length=n+js.length:=g0b
  have ret:∀ σ2 ρ2 H3,Rel K (f0m F σ ρ' H2 (bst n σ js) (blkE n js ρ')) σ2 ρ2 H3->σ2.length=(bst n σ js).length->σ2.drop n=capt σ js->(∀i,(gt ρ2 i).own=true->(gt (blkE n js ρ') i).own=true) ->
    Rel K F σ (back ρ' (js.map R.o) (ρ2.drop n)) H3/\Kp σ ρ' (back ρ' (js.map R.o) (ρ2.drop n)) H2 H3/\Same (hid H3 (hs (f0m F σ ρ' H2 (bst n σ js) (blkE n js ρ')) σ2 ρ2)) (hid H3 (hs F σ (back ρ' (js.map R.o) (ρ2.drop n)))):=fun σ2 ρ2 H3 rr hlen2 hdrop hown=>by
   obtain⟨f1,f2⟩:=rr.forget (n:=n) (by omega) pin0
   rw[hdrop]at f1 f2
   have f1':Rel K (f0m F σ ρ' H2 (bst n σ js) ((blkR n js).map (c0l ρ'))) (bst n σ js) (List.replicate n .un++ρ2.drop n) H3:=by rw[c0k];exact f1
   have bk:=r'.back src hd' f1' fun i hi=>by
    rw[c0k]
    rw[n0k]at hi
    split at hi
    ·cases hi
    ·rename_i hni
     rw[i0u,show n+(i - n)=i by omega]at hi
     exact hown i hi
   have ln:(List.replicate n Sv.un++ρ2.drop n).length=n+js.length:=by
    have:=rr.len
    simp;omega
   rw[o0a js ρ' n _ ln,List.drop_left' (by simp),c0k]at bk
   exact⟨bk.1,bk.2.1,f2.trans bk.2.2⟩
  refine hg _ (bst n σ js) (blkE n js ρ') H2 x _ _ _ (fun i a h=>by simp[pin0 i a h]) rb (by rw[hs2];exact rx) h' fun σ2 ρ2 h2 r2 l2 p2 o2=>?_
  have hdrop:σ2.drop n=capt σ js:=by
   have:σ2.drop n=(bst n σ js).drop n:=by
    apply List.ext_getElem?
    intro i
    rw[List.getElem?_drop,List.getElem?_drop]
    exact p2 (n+i) (by simp)
   rw[this]
   unfold bst
   rw[List.drop_left' (by simp)]
  have hin:σ2=List.replicate n2 none++σ2.drop n2:=by
   apply List.ext_getElem?
   intro j
   rcases Nat.lt_or_ge j n2 with z | z
   ·rw[p2 j (by simp[z]),List.getElem?_append_left (by simpa using z)]
    unfold bst
    rw[List.getElem?_append_left (by simp;omega),List.getElem?_replicate,List.getElem?_replicate,if_pos z,if_pos (by omega)]
   ·rw[List.getElem?_append_right (by simpa using z),List.length_replicate,List.getElem?_drop]
    congr 1;omega
  have rdb:RepDs K (hid H2 (hs (f0m F σ ρ' H2 (bst n σ js) (blkE n js ρ')) σ2 ρ2)) ys acc:=by
   rw[<- hs2]at rd
   refine rd.same (a0y fun a o e nn=>⟨e,fun z=>nn ?_⟩)
   rcases z with z | ⟨j,hj,ej⟩
   ·exact .inl z
   ·obtain⟨b1,b2⟩:=o2 j hj
    rw[b2]at ej
    exact .inr ⟨j,b1,ej⟩
  refine⟨hdrop,hc _ σ2 ρ2 H2 _ _ r2 h2 fun b ρ3 H3 h3 r3 k3=>?_⟩
  cases b with
  | false =>
   obtain⟨b1,b2,_⟩:=ret σ2 ρ3 H3 r3 l2 hdrop fun i hi=>(o2 i (k3.sb i hi)).1
   exact⟨_,acc,b1,k'.trans b2,rd.same b2.vis,h3⟩
  | true =>
   refine hi2 _ σ2 ρ3 H3 _ _ r3 h3 fun ds2 c2 ρ4 J2 H4 h4 r4 k4 wk2=>?_
   refine s0g hg2 hc2 he (fun i a h=>Nat.le_trans hn (pin0 i a h)) (by omega) hin r4 (fun ρ5 H5 a1 a2 a3 a4=>wk2 σ2 ρ5 H5 a1 a2 (fun _ _ _ e=>e) a3 a4) (rdb.same (k3.trans k4).vis) h4 fun acc' ρ5 ys' H5 h5 r5 k5 rd5=>?_
   obtain⟨b1,b2,b3⟩:=ret σ2 ρ5 H5 r5 l2 hdrop fun i hi=>(o2 i (k3.sb i (k4.sb i (k5.sb i hi)))).1
   exact⟨_,acc',b1,k'.trans b2,rd5.same b3,h5⟩
 ·left
  rw[List.drop_eq_nil_of_le ge]at h'
  unfold h0s at h'
  obtain⟨hcc,hz,h'⟩:=h'
  refine⟨(w hcc i).2 ge,small (by omega),fun l hl'=>?_⟩
  exact((k.after k1).after k').new r' h' rd hl'
end
section
variable {n2 n:Nat}{js:List Nat}{c:En->Prop}{g g2:AG}{tc tc2:AT}{i2:AI}{te:AE}
theorem u0v {α:Type}{q:List D->En->Prop}(h:α->D)(f:α->List D){xs:List α}{ρ:En}(hc:c ρ)
  (hs:∀x acc (N:List D->En->Prop),x∈xs->(∃ys:List α,ys.length<=xs.length/\acc=(ys.flatMap f)/\∀y∈ys,y∈xs)->N (acc++f x) ρ->g (h x) (blkE n js ρ) fun ρ1=>tc ρ1 fun b ρ2=>if b=true then i2 ρ2 fun ds2 c2 ρ3=>g0s n2 c2 g2 tc2 te (fun acc' ρ4=>N acc' (back ρ (js.map R.o) (ρ4.drop n))) ds2 acc ρ3 else N acc (back ρ (js.map R.o) (ρ2.drop n)))
  (hl:(xs.flatMap f).length<=1000000) (hd:q (xs.flatMap f) ρ):h0s n2 n js c g tc i2 g2 tc2 te q (xs.map h) [] ρ:=by
 have go:∀(zs ys:List α),ys++zs=xs->h0s n2 n js c g tc i2 g2 tc2 te q (zs.map h) (ys.flatMap f) ρ:=by
  intro zs
  induction zs with
  | nil =>
   intro ys e
   rw[List.append_nil]at e
   subst e
   rw[List.map_nil]
   unfold h0s
   exact⟨hc,hl,hd⟩
  | cons z zs ih =>
   intro ys e
   rw[List.map_cons]
   unfold h0s
   refine⟨hc,hs z _ (fun acc' ρ'=>h0s n2 n js c g tc i2 g2 tc2 te q (zs.map h) acc' ρ') (by rw[<- e];simp) ⟨ys,by rw[<- e,List.length_append];omega,rfl,fun y hy=>by rw[<- e];exact List.mem_append_left _ hy⟩ ?_⟩
   have:=ih (ys++[z]) (by rw[<- e,List.append_assoc];rfl)
   rw[List.flatMap_append,List.flatMap_cons,List.flatMap_nil,List.append_nil]at this
   exact this
 exact go xs [] rfl
end
end L2
namespace L2
end L2
namespace L2
open PySem PySem.Spec PyProof.Rows
end L2
namespace L2
theorem u0u {n2:Nat}{c:En->Prop}{g:AG}{tc:AT}{te:AE}{k:List D->En->Prop}(I:Nat->List D->En->Prop){ds:List D}(hc:∀i acc ρ,i<=ds.length->I i acc ρ->c ρ/\acc.length<=1000000)
  (hs:∀(i:Nat) d acc ρ (N:List D->En->Prop),ds[i]? = some d->I i acc ρ->(∀acc' ρ',I (i+1) acc' ρ'->N acc' ρ') ->
   g d ρ fun ρ1=>tc ρ1 fun b ρ2=>if b=true then te ρ2 fun r ρ3=>sto [r.frz] ρ3 fun es ρ4=>N (acc++es) (List.replicate n2 .un++ρ4.drop n2)else N acc (List.replicate n2 .un++ρ2.drop n2))
  (hd:∀acc ρ,I ds.length acc ρ->k acc ρ):∀acc ρ,I 0 acc ρ->g0s n2 c g tc te k ds acc ρ:=by
 have go:∀(es:List D) (i:Nat),ds.drop i=es->i<=ds.length->∀acc ρ,I i acc ρ->g0s n2 c g tc te k es acc ρ:=by
  intro es
  induction es with
  | nil =>
   intro i h hi acc ρ hI
   have:ds.length<=i:=List.drop_eq_nil_iff.mp h
   have:i=ds.length:=by omega
   subst this
   unfold g0s
   exact⟨(hc _ acc ρ (Nat.le_refl _) hI).1,hd acc ρ hI⟩
  | cons d es ih =>
   intro i h hi acc ρ hI
   have lt:i<ds.length:=by
    rcases Nat.lt_or_ge i ds.length with q | q
    ·exact q
    ·rw[List.drop_eq_nil_of_le q]at h;cases h
   rw[List.drop_eq_getElem_cons lt]at h
   injection h with h1 h2
   unfold g0s
   obtain⟨a,b⟩:=hc i acc ρ hi hI
   exact⟨a,b,hs i d acc ρ (fun acc' ρ'=>g0s n2 c g tc te k es acc' ρ') (by rw[<- h1];exact List.getElem?_eq_getElem lt) hI (fun acc' ρ' i'=>ih (i+1) h2 lt acc' ρ' i')⟩
 exact go ds 0 rfl (Nat.zero_le _)
end L2
namespace L2
open PySem PySem.Spec PyProof.Rows
end L2
set_option maxHeartbeats 2000000
namespace L2
open PySem PySem.Spec PyProof.Rows
end L2
namespace L2
open PySem
end L2
namespace L2
open PySem PySem.Spec PyProof.Rows
end L2
set_option maxHeartbeats 3200000
namespace L2
open PySem PySem.Spec PyProof.Rows
end L2
set_option maxHeartbeats 1000000
namespace L2
open PySem PySem.Spec PyProof.Rows
end L2
namespace L2
open PySem PySem.Spec PyProof.Rows PySem.W
end L2
namespace L2
open PySem PySem.Spec PyProof.Rows
mutual
def noL:D->Bool
 | .lst _=>false
 | .tup ds=>noLs ds
 | _=>true
def noLs:List D->Bool
 | []=>true
 | d::ds=>noL d&&noLs ds
end
section
variable {K:PySem.W.Frag}{H H':Hp}
mutual
theorem RepD.tups (ht:∀a vs,StT H a vs->StT H' a vs):∀ {v:V} {d:D},noL d=true->RepD K H v d->RepD K H' v d
 | v,.non,_,h=>by unfold RepD at h ⊢;exact h
 | v,.bl b,_,h=>by unfold RepD at h ⊢;exact h
 | v,.int i,_,h=>by unfold RepD at h ⊢;exact h
 | v,.str x,_,h=>by unfold RepD at h ⊢;exact h
 | v,.tup ds,z,h=>by
  unfold RepD at h ⊢
  obtain⟨a,vs,e,h1,h2⟩:=h
  exact⟨a,vs,e,ht _ _ h1,RepDs.tups ht (by unfold noL at z;exact z) h2⟩
 | v,.lst ds,z,h=>by unfold noL at z;cases z
theorem RepDs.tups (ht:∀a vs,StT H a vs->StT H' a vs):∀ {vs:List V} {ds:List D},noLs ds=true->RepDs K H vs ds->RepDs K H' vs ds
 | [],[],_,_=>RepDs.nil
 | v::vs,d::ds,z,h=>by
  unfold RepDs at h ⊢
  unfold noLs at z
  rw[Bool.and_eq_true]at z
  exact⟨RepD.tups ht z.1 h.1,RepDs.tups ht z.2 h.2⟩
 | [],d::ds,_,h=>by unfold RepDs at h;exact h.elim
 | v::vs,[],_,h=>by unfold RepDs at h;exact h.elim
end
end
def svN:Sv->Bool
 | .un=>true
 | .vl d=>noL d
 | .ow ds=>noLs ds
 | _=>false
def svNs:En->Bool
 | []=>true
 | s::ss=>svN s&&svNs ss
theorem s0p:∀ {ss:En} (i:Nat),svNs ss=true->svN (gt ss i)=true
 | [],i,_=>rfl
 | s::ss,0,h=>by unfold svNs at h;rw[Bool.and_eq_true]at h;exact h.1
 | s::ss,i+1,h=>by unfold svNs at h;rw[Bool.and_eq_true]at h;exact s0p i h.2
section
variable {K:PySem.W.Frag}{F:Fr}{σ:St}{ρ ρ':En}{H H':Hp}{vs:List V}{ss ss':En}{Z Z':Addr->Prop}
theorem SvOk.tups {Hh Hh':Hp}{v:Option (Option V)}{s:Sv}(h:SvOk K Hh H v s)(z:svN s=true)(ht:∀a vs,StT Hh a vs->StT Hh' a vs)(k:∀l o,s.own=true->v=some (some (.ref l))->H l=some o->H' l=some o):SvOk K Hh' H' v s:=by
 cases s with
 | un=>trivial
 | vl d=>obtain⟨x,e,r⟩:=h;exact⟨x,e,r.tups ht z⟩
 | ow ds=>obtain⟨l,vs,e,a,r⟩:=h;exact⟨l,vs,e,k _ _ rfl e a,r.tups ht z⟩
 | tp n=>cases z
 | dk kvs=>cases z
 | dt kvs=>cases z
 | ex C fs=>cases z
 | sc ns=>cases z
 | px d C fs=>cases z
 | xl es=>cases z
def Zall (H:Hp)(ovs:St)(ss:En):Addr->Prop:=fun a=>Nt H a/\¬b0c ovs ss a
theorem Rel.hide (r:Rel K (F0 vs ss H Z) (vs.map some) ss H)(hn:svNs ss=true):Rel K (F0 vs ss H (Zall H (vs.map some) ss)) (vs.map some) ss H:=by
 refine⟨r.len,r.fr,fun a z=>z.1,fun a h z=>z.2 h,r.ow,r.mi,r.ml,r.ma,r.nd,fun i=>(r.sl i).tups (s0p i hn) (fun a xs h=>?_) fun l o _ _ e=>e⟩
 obtain⟨n,e⟩:=d0v.mp h
 refine f0r (fun z=>?_) e
 rcases z with z | z
 ·exact z.1.2 _ e
 ·exact(l0g r z).2 _ e
end
def dv:Sv->Sv
 | .vl d=>.vl d
 | .ow ds=>.vl (.lst ds)
 | _=>.un
theorem u0g:∀(ρ:En) (i:Nat),gt (ρ.map dv) i=dv (gt ρ i)
 | [],i=>rfl
 | s::r,0=>rfl
 | s::r,i+1=>u0g r i
def kept (pr:Nat->Bool):Nat->En->En->Prop
 | k,s::r,s'::r'=>(pr k=true->s'=s)/\kept pr (k+1) r r'
 | _,[],[]=>True
 | _,_,_=>False
theorem u0b {pr:Nat->Bool}:∀ {k:Nat} {ρ ρ':En},kept pr k ρ ρ'->ρ'.length=ρ.length/\∀i,pr (k+i)=true->gt ρ' i=gt ρ i
 | k,s::r,s'::r',h=>by
  obtain⟨h1,h2⟩:=h
  obtain⟨l,g⟩:=u0b h2
  refine⟨by simp[l],fun i hi=>?_⟩
  cases i with
  | zero=>exact h1 hi
  | succ i=>exact g i (by rw[show k+1+i=k+(i+1)by omega];exact hi)
 | _,[],[],_=>⟨rfl,fun _ _=>rfl⟩
 | _,[],_::_,h=>h.elim
 | _,_::_,[],h=>h.elim
def rstE (pr:Nat->Bool):Nat->En->En
 | _,[]=>[]
 | k,s::r=>(if pr k=true then s else .un)::rstE pr (k+1) r
theorem u0f (pr:Nat->Bool):∀(k:Nat) (ρ:En) (i:Nat),gt (rstE pr k ρ) i=if pr (k+i)=true then gt ρ i else .un
 | k,[],i=>by simp[rstE,gt]
 | k,s::r,0=>by simp[rstE,gt]
 | k,s::r,i+1=>by
  show gt (rstE pr (k+1) r) i=_
  rw[u0f pr (k+1) r i,show k+1+i=k+(i+1)by omega];rfl
theorem p0z (pr:Nat->Bool):∀(k:Nat) (ρ:En),(rstE pr k ρ).length=ρ.length
 | _,[]=>rfl
 | k,s::r=>by simp[rstE,p0z pr (k+1) r]
def allD:List R->Bool
 | []=>true
 | .d d::rs=>noL d&&allD rs
 | _=>false
theorem x0z {ρ:En}:∀ {rs:List R},allD rs=true->svNs (rs.map (c0l ρ))=true/\dis rs=true/\(∀i,(gt (rs.map (c0l ρ)) i).own=false)/\∀ss',back ρ rs ss'=ρ
 | [],_=>⟨rfl,rfl,fun _=>rfl,fun ss'=>by cases ss' <;> rfl⟩
 | .d d::rs,h=>by
  unfold allD at h
  rw[Bool.and_eq_true]at h
  obtain⟨h1,h2,h3,h4⟩:=x0z (ρ:=ρ) h.2
  refine⟨?_,h2,fun i=>?_,fun ss'=>?_⟩
  ·show(noL d&&svNs (rs.map (c0l ρ)))=true
   rw[h.1,h1];rfl
  ·cases i with
   | zero=>rfl
   | succ i=>exact h3 i
  ·cases ss' with
   | nil=>rfl
   | cons s ss'=>exact h4 ss'
 | .o _::_,h=>by cases h
 | .n _::_,h=>by cases h
 | .t _::_,h=>by cases h
 | .x _::_,h=>by cases h
def a1i (K:PySem.W.Frag)(i:Nat)(m:D->Prop)(t:TS):Prop:=∀(D:Ends) (σ:St) (H0 H:Hp) (v:V) (d:L2.D),m d->σ[i]? = some (some v)->Same H0 H->RepD K (hid H (Nt H0)) v d->(∀H',Same H0 H'->D.nx σ H')->t D σ H
def a1c (prB:Nat->Bool)(i:Nat)(m:D->Prop)(S:ASp)(as:AA)(aB:AS):AS:=fun e ρ=>as ρ fun rs ρ1=>i<ρ1.length/\allD rs=true/\S (rs.map (c0l ρ1)) fun r _=>∃d,r = .d d/\m d/\aB ⟨fun ρ'=>kept prB 0 (pt (ρ1.map dv) i (.vl d)) ρ'/\e.nx (rstE (fun j=>prB j&&j != i) 0 ρ1),fun _ _=>False,fun _=>False,fun _=>False⟩ (pt (ρ1.map dv) i (.vl d))
section
variable {K:PySem.W.Frag}{pr prB:Nat->Bool}
def bFr (H:Hp)(prB:Nat->Bool)(σ:St):Fr:=⟨H,fun _=>False,fun _=>False,fun _ _=>False,fun j a=>prB j=true/\σ[j]? = some (some (.ref a))⟩
theorem v0s {i:Nat}{m:D->Prop}{S:ASp}{E:XK}{ts:TA}{as:AA}{tB tM:TS}{aB:AS}(hpi:pr i=false)(hpB:∀j,pr j=true->prB j=true)(hi:prB i=true)(hs':TAok K ts as)(hB:TSok K prB tB aB)(hM:a1i K i m tM) :
  TSok K pr (tSeq (tAsg (r0h (spA K S) [] E ts) (p0e i)) (tSeq tB tM)) (a1c prB i m S as aB):=by
 intro F σ ρ H D e hp r h k
 refine hs' F σ ρ H _ _ r h fun rs ρ1 vs H1 h1 r1 i1 k1=>?_
 obtain⟨hlt,ha,hS⟩:=h1
 have s:=i1.srcs
 obtain⟨hn,hd,hno,hbk⟩:=x0z (ρ:=ρ1) ha
 rw[List.append_nil]
 have r0:=(r1.sub s hd).hide hn
 refine⟨rs.map (c0l ρ1),_,_,r0,hS,fun rr ss' v H2 hq sb no out=>?_⟩
 obtain⟨d,rfl,hm,haB⟩:=hq
 obtain⟨rc,rd⟩:=out
 have noss:∀a,¬b0c (vs.map some) (rs.map (c0l ρ1)) a:=fun a ⟨j,hj,_⟩=>by rw[hno j]at hj;cases hj
 have noss':∀a,¬b0c (vs.map some) ss' a:=fun a ⟨j,hj,_⟩=>by have:=sb j hj;rw[hno j]at this;cases this
 have s12:Same H1 H2:=fun a o e=>rc.fr a o e (noss a)
 have rdn:RepD K (hid H2 (Nt H1)) v d:=rd.same (a0y fun a o e n=>⟨e,fun z=>n (.inl ⟨z,noss a⟩)⟩)
 have nown:∀j,(gt (pt (ρ1.map dv) i (.vl d)) j).own=false:=fun j=>by
  by_cases ij:i=j
  ·subst ij
   rcases Nat.lt_or_ge i (ρ1.map dv).length with q | q
   ·rw[h0r _ i _ q];rfl
   ·rw[g0o _ i (by rw[d0s];exact q)];rfl
  ·rw[b0g _ i j _ ij,u0g]
   cases gt ρ1 j <;> rfl
 have nob:∀ {σ':St} {a:Addr},¬b0c σ' (pt (ρ1.map dv) i (.vl d)) a:=fun⟨j,hj,_⟩=>by rw[nown j]at hj;cases hj
 have rb:Rel K (bFr H2 prB (σ.set i (some v))) (σ.set i (some v)) (pt (ρ1.map dv) i (.vl d)) H2:=by
  have vis1:Same (hid H1 (hs F σ ρ1)) (hid H2 (hs (bFr H2 prB (σ.set i (some v))) (σ.set i (some v)) (pt (ρ1.map dv) i (.vl d)))):=fun a o e=>f0r (fun z=>by rcases z with z | z;exact z;exact nob z) (s12 _ _ (d0v.mp e).2)
  have vis2:Same H2 (hid H2 (hs (bFr H2 prB (σ.set i (some v))) (σ.set i (some v)) (pt (ρ1.map dv) i (.vl d)))):=fun a o e=>f0r (fun z=>by rcases z with z | z;exact z;exact nob z) e
  refine⟨by rw[List.length_set,d0s,List.length_map,r1.len],fun a o e _=>e,fun a z=>z.elim,fun a h=>(nob h).elim,(fun j a hj=>by rw[nown j]at hj;cases hj),fun j a h=>?_,fun a z=>z.elim,fun a z=>z.elim,(fun j k a hj=>by rw[nown j]at hj;cases hj),fun j=>?_⟩
  ·rcases h with h | h
   ·exact h.elim
   ·exact h.2
  ·by_cases ij:i=j
   ·subst ij
    rcases Nat.lt_or_ge i (ρ1.map dv).length with q | q
    ·rw[h0r _ i _ q,List.getElem?_set_self (by rw[r1.len];simpa using q)]
     exact⟨v,rfl,(rdn.same b0m).same vis2⟩
    ·rw[g0o _ i (by rw[d0s];exact q)];trivial
   ·rw[b0g _ i j _ ij,u0g,List.getElem?_set_ne ij]
    have q:=r1.sl j
    cases hg:gt ρ1 j with
    | un=>trivial
    | vl d'=>rw[hg]at q;obtain⟨x,e,rx⟩:=q;exact⟨x,e,rx.same vis1⟩
    | ow ds =>
     rw[hg]at q;obtain⟨l,us,e,hl,rx⟩:=q
     refine⟨_,e,?_⟩
     unfold RepD
     exact⟨l,us,rfl,vis2 _ _ (s12 _ _ hl),rx.same vis1⟩
    | tp n=>trivial
    | dk n=>trivial
    | dt n=>trivial
    | ex n m=>trivial
    | sc n=>trivial
    | px n m k=>trivial
    | xl es=>trivial
 refine hB (bFr H2 prB (σ.set i (some v))) (σ.set i (some v)) _ H2 _ _ (fun j a h=>?_) rb haB ⟨?_,fun _ _ _ z=>z.elim,fun _ _ _ z=>z.elim,fun _ _ _ _ _ z=>z.elim⟩
 ·rcases h with h | h
  ·exact h.elim
  ·exact h.1
 rintro σ' ρ' H' ⟨hk,hq⟩ r'
 obtain⟨ln,kg⟩:=u0b hk
 have s2:Same H2 H':=fun a o e=>r'.fr a o e fun z=>z
 have pin:∀j a,prB j=true->(σ.set i (some v))[j]? = some (some (.ref a))->σ'[j]? = some (some (.ref a)):=fun j a hj e=>r'.mi j a (.inr ⟨hj,e⟩)
 have val:∀j x,prB j=true->gt (pt (ρ1.map dv) i (.vl d)) j ≠ .un->(σ.set i (some v))[j]? = some (some x)->σ'[j]? = some (some x):=fun j x hj hu e=>by
  have q1:=rb.sl j
  have q2:=r'.sl j
  rw[kg j (by rw[Nat.zero_add];exact hj)]at q2
  rw[e]at q1
  have hg:∃d',gt (pt (ρ1.map dv) i (.vl d)) j = .vl d':=by
   by_cases ij:i=j
   ·subst ij
    rcases Nat.lt_or_ge i (ρ1.map dv).length with q | q
    ·exact⟨d,h0r _ i _ q⟩
    ·rw[g0o _ i (by rw[d0s];exact q)]at hu;exact(hu rfl).elim
   ·rw[b0g _ i j _ ij,u0g]at hu ⊢
    cases hg:gt ρ1 j with
    | vl d'=>exact⟨d',rfl⟩
    | ow ds=>exact⟨.lst ds,rfl⟩
    | un=>rw[hg]at hu;exact(hu rfl).elim
    | tp n=>rw[hg]at hu;exact(hu rfl).elim
    | dk n=>rw[hg]at hu;exact(hu rfl).elim
    | dt n=>rw[hg]at hu;exact(hu rfl).elim
    | ex n m=>rw[hg]at hu;exact(hu rfl).elim
    | sc n=>rw[hg]at hu;exact(hu rfl).elim
    | px n m k=>rw[hg]at hu;exact(hu rfl).elim
    | xl es=>rw[hg]at hu;exact(hu rfl).elim
  obtain⟨d',hg⟩:=hg
  rw[hg]at q1 q2
  obtain⟨x1,e1,rx1⟩:=q1
  obtain⟨x2,e2,rx2⟩:=q2
  injection e1 with e1;injection e1 with e1;subst e1
  cases d' with
  | non=>unfold RepD at rx1 rx2;rw[e2,rx1,rx2]
  | bl b=>unfold RepD at rx1 rx2;rw[e2,rx1,rx2]
  | int b=>unfold RepD at rx1 rx2;rw[e2,rx1,rx2]
  | str b=>unfold RepD at rx1 rx2;rw[e2,rx1,rx2]
  | tup ds=>unfold RepD at rx1;obtain⟨a,us,rfl,_⟩:=rx1;exact pin j a hj e
  | lst ds=>unfold RepD at rx1;obtain⟨a,us,rfl,_⟩:=rx1;exact pin j a hj e
 have hv:i<(ρ1.map dv).length->σ'[i]? = some (some v):=fun q=>val i v hi (by rw[h0r _ i _ q];exact fun z=>nomatch z) (List.getElem?_set_self (by rw[r1.len];simpa using q))
 have fine:∀H3,Same H1 H3->D.nx σ' H3:=fun H3 s13=>by
  have sv:∀j,prB j=true->j≠i->gt ρ1 j ≠ .un->∀x,σ[j]? = some (some x)->σ'[j]? = some (some x):=fun j hj ji hu x e=>by
   have e':(σ.set i (some v))[j]? = some (some x):=by rw[List.getElem?_set_ne (Ne.symm ji)];exact e
   have isr:dv (gt ρ1 j) = .un->σ'[j]? = some (some x):=fun z=>by
    have q:=r1.sl j
    rw[e]at q
    cases hg:gt ρ1 j with
    | vl d'=>rw[hg]at z;cases z
    | ow ds=>rw[hg]at z;cases z
    | un=>exact(hu hg).elim
    | tp n=>rw[hg]at q;obtain⟨t,c,ns,sp,lf,e1,_⟩:=q;injection e1 with e1;injection e1 with e1;subst e1;exact pin j _ hj e'
    | dk n=>rw[hg]at q;obtain⟨t,ks,e1,_⟩:=q;injection e1 with e1;injection e1 with e1;subst e1;exact pin j _ hj e'
    | dt n=>rw[hg]at q;obtain⟨t,ks,e1,_⟩:=q;injection e1 with e1;injection e1 with e1;subst e1;exact pin j _ hj e'
    | ex n m=>rw[hg]at q;obtain⟨t,ks,e1,_⟩:=q;injection e1 with e1;injection e1 with e1;subst e1;exact pin j _ hj e'
    | sc n=>rw[hg]at q;obtain⟨t,e1,_⟩:=q;injection e1 with e1;injection e1 with e1;subst e1;exact pin j _ hj e'
    | px n m k=>rw[hg]at q;obtain⟨t,_,_,_,e1,_⟩:=q;injection e1 with e1;injection e1 with e1;subst e1;exact pin j _ hj e'
    | xl es=>rw[hg]at q;obtain⟨t,_,e1,_⟩:=q;injection e1 with e1;injection e1 with e1;subst e1;exact pin j _ hj e'
   by_cases z:dv (gt ρ1 j) = .un
   ·exact isr z
   ·exact val j x hj (by rw[b0g _ i j _ (Ne.symm ji),u0g];exact z) e'
  have gr:∀j,gt (rstE (fun j=>prB j&&j != i) 0 ρ1) j=if(prB j&&j != i)=true then gt ρ1 j else .un:=fun j=>by rw[u0f,Nat.zero_add]
  have own':∀j,(gt (rstE (fun j=>prB j&&j != i) 0 ρ1) j).own=true->(gt ρ1 j).own=true/\prB j=true/\j≠i:=fun j hj=>by
   rw[gr]at hj
   split at hj
   ·rename_i q
    rw[Bool.and_eq_true,bne_iff_ne]at q
    exact⟨hj,q.1,q.2⟩
   ·cases hj
  have at':∀j a,(gt (rstE (fun j=>prB j&&j != i) 0 ρ1) j).own=true->σ'[j]? = some (some (.ref a))->σ[j]? = some (some (.ref a)):=fun j a hj e=>by
   obtain⟨h1,h2,h3⟩:=own' j hj
   obtain⟨l,o,el,_⟩:=(r1.sl j).alive h1
   have:=sv j h2 h3 (fun z=>by rw[z]at h1;cases h1) _ el
   rw[this]at e
   injection e with e;injection e with e
   rw[el,<- e]
  have sub:∀a,b0c σ' (rstE (fun j=>prB j&&j != i) 0 ρ1) a->b0c σ ρ1 a:=fun a ⟨j,hj,e⟩=>⟨j,(own' j hj).1,at' j a hj e⟩
  have vis:Same (hid H1 (hs F σ ρ1)) (hid H3 (hs F σ' (rstE (fun j=>prB j&&j != i) 0 ρ1))):=a0y fun a o e n=>⟨s13 _ _ e,fun z=>n (z.imp id (sub a))⟩
  refine k.nx _ _ _ hq ⟨?_,fun a o e n=>s13 _ _ (r1.fr a o e n),fun a z=>u0h s13 (r1.zl a z),fun a h=>r1.zo a (sub a h),fun j a hj e=>r1.ow j a (own' j hj).1 (at' j a hj e),fun j a h=>?_,r1.ml,fun a z=>k0g s13 (r1.ma a z),fun j l a hj hl ej el=>r1.nd j l a (own' j hj).1 (own' l hl).1 (at' j a hj ej) (at' l a hl el),fun j=>?_⟩
  ·rw[p0z,r'.len,ln,d0s,List.length_map]
  ·have pj:=hp j a h
   have ji:j≠i:=fun z=>by rw[z,hpi]at pj;cases pj
   exact pin j a (hpB j pj) (by rw[List.getElem?_set_ne (Ne.symm ji)];exact r1.mi j a h)
  ·rw[gr]
   split
   ·rename_i q
    rw[Bool.and_eq_true,bne_iff_ne]at q
    have s0:=r1.sl j
    by_cases hu:gt ρ1 j = .un
    ·rw[hu];trivial
    ·have hx:∃x,σ[j]? = some (some x):=by
      cases hg:gt ρ1 j with
      | un=>exact(hu hg).elim
      | vl d'=>rw[hg]at s0;obtain⟨x,e,_⟩:=s0;exact⟨x,e⟩
      | ow d'=>rw[hg]at s0;obtain⟨x,_,e,_⟩:=s0;exact⟨_,e⟩
      | tp n=>rw[hg]at s0;obtain⟨t,c,ns,sp,lf,e,_⟩:=s0;exact⟨_,e⟩
      | dk n=>rw[hg]at s0;obtain⟨t,ks,e,_⟩:=s0;exact⟨_,e⟩
      | dt n=>rw[hg]at s0;obtain⟨t,ks,e,_⟩:=s0;exact⟨_,e⟩
      | ex n m=>rw[hg]at s0;obtain⟨t,ks,e,_⟩:=s0;exact⟨_,e⟩
      | sc n=>rw[hg]at s0;obtain⟨t,e,_⟩:=s0;exact⟨_,e⟩
      | px n m k=>rw[hg]at s0;obtain⟨t,_,_,_,e,_⟩:=s0;exact⟨_,e⟩
      | xl es=>rw[hg]at s0;obtain⟨t,_,e,_⟩:=s0;exact⟨_,e⟩
     obtain⟨x,e⟩:=hx
     rw[sv j q.1 q.2 hu x e,<- e]
     exact s0.keep vis fun l o _ _ e=>s13 _ _ e
   ·trivial
 have q:i<(ρ1.map dv).length:=by simpa using hlt
 exact hM D σ' H1 H' v d hm (hv q) (s12.trans s2) (rdn.same (a0y fun a o e n=>⟨s2 _ _ e,n⟩)) fine
end
section
variable {K:PySem.W.Frag}{pr prB:Nat->Bool}
theorem t0u {H0 H:Hp}{l:Addr}{us:List V}(s:Same H0 H)(h:StL (hid H (Nt H0)) l us):H0 l=none/\H l=some (.lst us):=by
 obtain⟨n,e⟩:=d0v.mp h
 refine⟨?_,e⟩
 cases q:H0 l with
 | none=>rfl
 | some o =>
  exfalso
  refine n ⟨(by rw[q];exact(fun z=>nomatch z)),fun xs z=>?_⟩
  have:=s _ _ z
  rw[e]at this;cases this
end
section
variable {X:Cx}{K:PySem.W.Frag}
open Classical in
noncomputable def eqW (K:PySem.W.Frag)(H:Hp)(d:D)(w:Value):Bool:=decide (∃t e,RelV t w/\RepD K H t e/\eqD e d=true)
open Classical in
theorem x0u {pins:List (Addr×Obj)}{σ:St}{s:Shared}{H:Hp}{d e:D}{t:V}{w:Value}(I:Inv X pins σ H s)(r:RelV t w)(h:RepD X.K H t e):eqW X.K H d w=eqD e d:=by
 unfold eqW
 cases q:eqD e d with
 | true=>exact decide_eq_true ⟨t,e,r,h,q⟩
 | false =>
  refine decide_eq_false ?_
  rintro⟨t',e',r',h',q'⟩
  have:=r'.inj r
  subst this
  rw[h0v I h' h]at q'
  rw[q]at q';cases q'
theorem u0p {pins:List (Addr×Obj)}{σ:St}{s:Shared}{H:Hp}{d:D}(I:Inv X pins σ H s):∀ {xs:List V} {us:List Value} {ds:List D},Vals xs us->RepDs X.K H xs ds->us.any (eqW X.K H d)=ds.any fun e=>eqD e d
 | [],_,[],.nil,_=>rfl
 | v::xs,_,e::ds,.cons h t,r=>by
  unfold RepDs at r
  rw[List.any_cons,List.any_cons,u0p I t r.2,x0u I h r.1]
 | [],_,e::ds,.nil,r=>by unfold RepDs at r;exact r.elim
 | v::xs,_,[],.cons h t,r=>by unfold RepDs at r;exact r.elim
end
section
variable {X:Cx}{K:PySem.W.Frag}
def rInL (neg:Bool)(K:PySem.W.Frag):R2:=fun x y H Q=>∃p xs d ds,y = .ref p/\SqL K H p xs/\RepD K H x d/\RepDs K H xs ds/\(∀e∈ds,e.depth<=60)/\Q (.bl (if neg then !(ds.any fun e=>eqD e d)else ds.any fun e=>eqD e d)) H
theorem c1v {pins:List (Addr×Obj)}{σ:St}{s:Shared}{H:Hp}(hu:X.A.units+64<cLine)(I:Inv X pins σ H s){x:V}{v:Value}{xs:List V}{its:List Value}{d:D}{ds:List D}(r:Vals xs its)(rx:RelV x v)(rd:RepD X.K H x d)(rds:RepDs X.K H xs ds)(ha:∀e∈ds,e.depth<=60) :
  ∀y,y∈its.toArray->SeqAt.EqAt X.A.in1 s y v (eqW X.K H d y):=fun w hw=>by
 have hw':w∈its:=by simpa using hw
 obtain⟨j,hj,rfl⟩:=List.getElem_of_mem hw'
 have hl:=r.length
 have hl2:=rds.length
 obtain⟨z,e1,e2⟩:=r.get (i:=j) (x:=xs[j]'(by omega)) (List.getElem?_eq_getElem _)
 rw[List.getElem?_eq_getElem hj]at e1
 cases e1
 obtain⟨t,g1,g2⟩:=rds.get (i:=j) (d:=ds[j]'(by omega)) (List.getElem?_eq_getElem _)
 rw[List.getElem?_eq_getElem (by omega)]at g1
 cases g1
 rw[x0u I e2 g2]
 exact(q0d I 60 (ha ds[j] (List.getElem_mem _)) (by rw[d0o];omega) e2 rx g2 rd).2
theorem m0r (K:PySem.W.Frag)(hu:X.A.units+64<cLine)(hK:X.K=K:=by rfl):OpR X (compareOp .NotIn) (rInL true K):=by
 subst hK
 intro pins s σ H x y v u Q I rx ry h
 obtain⟨p,xs,d,ds,rfl,hq,rd,rds,ha,q⟩:=h
 cases ry
 obtain⟨its,r,pl,hz⟩:=I.list hq
 refine SeqAt.notIn_listAt (eqW X.K H d) pl.isList (c1v hu I r rx rd rds ha) ⟨.bl _,H,I,?_,q⟩
 show RelV _ (Value.bool (!its.toArray.any (eqW X.K H d)))
 rw[List.any_toArray,u0p I r rds]
 rfl
end
section
variable {K:PySem.W.Frag}
@[irreducible] def gInL (neg:Bool):R->R->AE:=fun r1 r2 ρ q=>match view ρ r1,view ρ r2 with
 | some d,some (.lst ds)=>(∀e∈ds,e.depth<=60)/\q (.d (.bl (if neg then !(ds.any fun e=>eqD e d)else ds.any fun e=>eqD e d))) ρ
 | _,_=>False
theorem p0f {neg:Bool}{r1 r2:R}{ρ:En}{q:Ko}{d:D}{ds:List D}{b:Bool}(h1:view ρ r1=some d)(h2:view ρ r2=some (.lst ds))(hd:∀e∈ds,e.depth<=60)(hb:(ds.any fun e=>eqD e d)=b)(hq:q (.d (.bl (if neg then !b else b))) ρ):gInL neg r1 r2 ρ q:=by
 unfold gInL
 rw[h1,h2]
 subst hb
 exact⟨hd,hq⟩
theorem t0p (neg:Bool):OpOk K (rInL neg K) (gInL neg):=by
 intro F σ ρ H x y r1 r2 q Q a h1 h2 h b
 unfold gInL at h
 split at h
 ·rename_i d ds e1 e2
  obtain⟨l,vs,rfl,sq,rd⟩:=c0d a h2 e2
  exact⟨l,vs,d,ds,rfl,sq,d0f a h1 e1,rd.same b0m,h.1,b.bl a h.2⟩
 ·exact h.elim
end
section
variable {K:PySem.W.Frag}{pr prB:Nat->Bool}
theorem q0b {H:Hp}{v:V}{d e:D}(h:RepD K H v (.tup [d,e])):∃p x y,v = .ref p/\StT H p [x,y]/\RepD K H x d/\RepD K H y e:=by
 unfold RepD at h
 obtain⟨p,vs,rfl,hp,rds⟩:=h
 cases vs with
 | nil=>unfold RepDs at rds;exact rds.elim
 | cons v1 vs =>
  cases vs with
  | nil=>unfold RepDs at rds;obtain⟨_,z⟩:=rds;unfold RepDs at z;exact z.elim
  | cons v2 vs =>
   cases vs with
   | cons v3 vs=>unfold RepDs at rds;obtain⟨_,z⟩:=rds;unfold RepDs at z;obtain⟨_,z⟩:=z;unfold RepDs at z;exact z.elim
   | nil =>
    unfold RepDs at rds
    obtain⟨r1,r2⟩:=rds
    unfold RepDs at r2
    exact⟨p,v1,v2,rfl,hp,r1,r2.1⟩
theorem z0d {i:Nat}{w:Str}:a1i K i (fun d=>∃n z B,d = .tup [n,.tup [.str z,.lst B]]/\(z=w->∃C B',B = .lst C::B'))
  (tSeq (tIfS (tB (tOp (rEqD K) (tOp (rIx K) (tOp (rIx K) (tVar i) (tC (.int 1))) (tC (.int 0))) (tC (.str w))))
   (s0o (tBM0 K "list" rClear (tOp (rIx K) (tOp (rIx K) (tOp (rIx K) (tVar i) (tC (.int 1))) (tC (.int 1))) (tC (.int 0))))) tNext)
   (s0o (tBM0 K "list" rClear (tOp (rIx K) (tOp (rIx K) (tVar i) (tC (.int 1))) (tC (.int 1)))))):=by
 rintro D σ H0 H v d ⟨n,z,B,rfl,hB⟩ hv s rd fin
 obtain⟨p,x,y,rfl,hp,rx,ry⟩:=q0b rd
 obtain⟨p2,x2,y2,rfl,hp2,rx2,ry2⟩:=q0b ry
 unfold RepD at rx2
 subst rx2
 have ry0:=ry2
 unfold RepD at ry2
 obtain⟨l,us,rfl,hl,q⟩:=ry2
 obtain⟨nl,el⟩:=t0u s hl
 have hp':=(d0v.mp hp).2
 have hp2':=(d0v.mp hp2).2
 have pl:p≠l:=fun e=>by rw[e,el]at hp';cases hp'
 have pl2:p2≠l:=fun e=>by rw[e,el]at hp2';cases hp2'
 have last:∀H2 us2,H2 p=some (.tup [x,.ref p2])->H2 p2=some (.tup [.str z,.ref l])->H2 l=some (.lst us2)->Same H0 H2->s0o (tBM0 K "list" rClear (tOp (rIx K) (tOp (rIx K) (tVar i) (tC (.int 1))) (tC (.int 1)))) D σ H2:=fun H2 us2 e1 e2 e3 s2=>by
  refine⟨_,hv,.inr (.inl ⟨p,_,1,.ref p2,rfl,rfl,SqT.of e1,rfl,.inr (.inl ⟨p2,_,1,.ref l,rfl,rfl,SqT.of e2,rfl,.inl ⟨rfl,us2,SqL.of e3⟩,l,us2,rfl,rfl,e3,fin _ fun a o e=>?_⟩)⟩)⟩
  rw[a0o (a0t e nl)];exact s2 _ _ e
 refine⟨_,hv,.inr (.inl ⟨p,_,1,.ref p2,rfl,rfl,SqT.of hp',rfl,.inr (.inl ⟨p2,_,0,.str z,rfl,rfl,SqT.of hp2',rfl,.str z,.str w,by unfold RepD;rfl,by unfold RepD;rfl,by simp[L2.D.depth],_,rfl,?_⟩)⟩)⟩
 dsimp only
 split
 ·rename_i hc
  have hz:z=w:=by
   unfold eqD at hc
   simpa using hc
  obtain⟨C,B',rfl⟩:=hB hz
  cases us with
  | nil=>unfold RepDs at q;exact q.elim
  | cons u us =>
   unfold RepDs at q
   obtain⟨q1,q2⟩:=q
   unfold RepD at q1
   obtain⟨l2,us2,rfl,hl2,q3⟩:=q1
   obtain⟨nl2,el2⟩:=t0u s hl2
   have pa:p≠l2:=fun e=>by rw[e,el2]at hp';cases hp'
   have pb:p2≠l2:=fun e=>by rw[e,el2]at hp2';cases hp2'
   have hz':∃ws,(upd H l2 (.lst [])) l=some (.lst ws):=by
    by_cases e:l=l2
    ·rw[e,b0i];exact⟨_,rfl⟩
    ·rw[a0o e];exact⟨_,el⟩
   obtain⟨ws,hz'⟩:=hz'
   refine⟨_,hv,.inr (.inl ⟨p,_,1,.ref p2,rfl,rfl,SqT.of hp',rfl,.inr (.inl ⟨p2,_,1,.ref l,rfl,rfl,SqT.of hp2',rfl,.inl ⟨l,_,0,.ref l2,rfl,rfl,SqL.of el,(p0q (j:=0) rfl),.inl ⟨rfl,us2,SqL.of el2⟩,l2,us2,rfl,rfl,el2,?_⟩⟩)⟩)⟩
   refine last _ ws (by rw[a0o pa];exact hp') (by rw[a0o pb];exact hp2') hz' fun a o e=>?_
   rw[a0o (a0t e nl2)];exact s _ _ e
 ·exact last H us hp' hp2' el s
theorem o0k {i:Nat}{m:D->Prop}{S:ASp}{E:XK}{ts:TA}{as:AA}{b1 m1 m2 tR:TS}{c1 cR:AS}(hpi:pr i=false)(hpB:∀j,pr j=true->prB j=true)(hi:prB i=true)(hs':TAok K ts as)(h1:TSok K prB b1 c1)(hM:a1i K i m (tSeq m1 m2))(hR:TSok K pr tR cR) :
  TSok K pr (tSeq (tAsg (r0h (spA K S) [] E ts) (p0e i)) (tSeq b1 (tSeq m1 (tSeq m2 tR)))) (aSeq (a1c prB i m S as c1) cR):=by
 have h:TSok K pr (tSeq (tSeq (tAsg (r0h (spA K S) [] E ts) (p0e i)) (tSeq b1 (tSeq m1 m2))) tR) (aSeq (a1c prB i m S as c1) cR):=a0n (v0s (tB:=b1) hpi hpB hi hs' h1 hM) hR
 exact h
end
end L2
namespace L2
open PySem PySem.Spec PyProof.Rows PySem.W
end L2
namespace K67
open PySem PySem.Spec PyProof.Rows L2
def top (i:Nat):Stmt:=PySem.Challenge.pw_fewjoins_k67_the_bound.main.body.getD i (.Pass ⟨0,0,0,0⟩)
abbrev h0u:Stmt:=top 1
abbrev t0t:List Str:=["row"]
theorem s0z:b0f t0t ["row"] (a0i h0u):=⟨rfl,rfl,rfl,by decide +kernel,rfl,by decide +kernel,by decide +kernel⟩
abbrev d0l:Stmt:=top 2
abbrev h0l:List Str:=["row"]
theorem m0m:b0f h0l ["row"] (a0i d0l):=⟨rfl,rfl,rfl,by decide +kernel,rfl,by decide +kernel,by decide +kernel⟩
abbrev l0c:Stmt:=top 4
abbrev w0f:List Str:=["wish", "many", "rows", "classes", "hang", "places", "unlike"]
theorem e0e:b0f w0f ["wish"] (a0i l0c):=⟨rfl,rfl,rfl,by decide +kernel,rfl,by decide +kernel,by decide +kernel⟩
abbrev c0c:Stmt:=top 5
abbrev f0a:List Str:=["rows"]
theorem i0e:b0f f0a ["rows"] (a0i c0c):=⟨rfl,rfl,rfl,by decide +kernel,rfl,by decide +kernel,by decide +kernel⟩
abbrev b0v:Stmt:=top 6
abbrev d0h:List Str:=["rows", "classes", "place", "row", "met"]
theorem b0y:b0f d0h ["rows"] (a0i b0v):=⟨rfl,rfl,rfl,by decide +kernel,rfl,by decide +kernel,by decide +kernel⟩
abbrev e0g:Stmt:=top 7
abbrev n0a:List Str:=["rows", "places", "givens", "place"]
theorem d0r:b0f n0a ["rows", "places"] (a0i e0g):=⟨rfl,rfl,rfl,by decide +kernel,rfl,by decide +kernel,by decide +kernel⟩
abbrev b0u:Stmt:=top 8
abbrev e0u:List Str:=["rows", "places"]
theorem h0n:b0f e0u ["rows", "places"] (a0i b0u):=⟨rfl,rfl,rfl,by decide +kernel,rfl,by decide +kernel,by decide +kernel⟩
abbrev c0p:Stmt:=top 9
abbrev f0q:List Str:=["rows", "classes"]
theorem j0l:b0f f0q ["rows", "classes"] (a0i c0p):=⟨rfl,rfl,rfl,by decide +kernel,rfl,by decide +kernel,by decide +kernel⟩
abbrev f0g:Stmt:=top 11
abbrev o0x:List Str:=["_law_script"]
theorem o0l:b0f o0x ["_law_script"] (a0i f0g):=⟨rfl,rfl,rfl,by decide +kernel,rfl,by decide +kernel,by decide +kernel⟩
abbrev f0h:Stmt:=top 12
abbrev o0y:List Str:=["_law_tape_here", "_law_many", "_law_found", "_law_spot", "_law_cells", "_law_cell", "_law_seed"]
theorem c0h:b0f o0y ["_law_tape_here", "_law_many"] (a0i f0h):=⟨rfl,rfl,rfl,by decide +kernel,rfl,by decide +kernel,by decide +kernel⟩
abbrev e0f:Stmt:=top 13
abbrev m0z:List Str:=["_law_found"]
theorem m0l:b0f m0z ["_law_found"] (a0i e0f):=⟨rfl,rfl,rfl,by decide +kernel,rfl,by decide +kernel,by decide +kernel⟩
abbrev c0x:Stmt:=top 14
abbrev g0i:List Str:=["_law_row"]
theorem l0b:b0f g0i ["_law_row"] (a0i c0x):=⟨rfl,rfl,rfl,by decide +kernel,rfl,by decide +kernel,by decide +kernel⟩
abbrev d0z:Stmt:=top 15
abbrev i0o:List Str:=["_law_tape_here", "_law_many", "_law_way", "_law_groups", "_law_rows", "_law_turn", "_law_row", "_law_group"]
theorem b0d:b0f i0o ["_law_tape_here"] (a0i d0z):=⟨rfl,rfl,rfl,by decide +kernel,rfl,by decide +kernel,by decide +kernel⟩
abbrev d0k:Stmt:=top 16
abbrev h0k:List Str:=["_law_rows", "_law_places", "_law_found", "_law_more", "_law_meeting"]
theorem d0q:b0f h0k ["_law_rows", "_law_places"] (a0i d0k):=⟨rfl,rfl,rfl,by decide +kernel,rfl,by decide +kernel,by decide +kernel⟩
abbrev d0g:Stmt:=top 17
abbrev j0o:List Str:=["_law_rows", "_law_found", "_law_place", "_law_here", "_law_wider_here"]
theorem b0k:b0f j0o ["_law_rows"] (a0i d0g):=⟨rfl,rfl,rfl,by decide +kernel,rfl,by decide +kernel,by decide +kernel⟩
abbrev c0y:Stmt:=top 18
abbrev f0k:List Str:=["_law_wish_here", "_law_rows", "_law_places", "_law_classes_here", "_law_hang", "_law_one", "_law_unlike"]
theorem c0j:b0f f0k ["_law_wish_here"] (a0i c0y):=⟨rfl,rfl,rfl,by decide +kernel,rfl,by decide +kernel,by decide +kernel⟩
abbrev v0v:Stmt:=top 19
abbrev c1g:List Str:=["_law_script", "_law_tape_here", "_law_turn", "_law_wish_here", "_law_due_here", "_law_found"]
theorem j0z:b0f c1g ["_law_script"] (a0i v0v):=⟨rfl,rfl,rfl,by decide +kernel,rfl,by decide +kernel,by decide +kernel⟩
section
variable {P:Program}{w:World}{K:PySem.W.Frag}{mg:Str->Option Value}{base:Heap}
theorem o0v (D:DefN K mg "_law_tape" f0g ["_law_script"])(B:BI mg):OkN P w K mg base 1 "_law_tape" ["_law_script"] (spA K a1d):=by
 refine OkN.imp (sp:=s0s K) ?_ y0k
 refine D.ok o0l (fun vs H Q E h=>?_) (fun f cdv A outer s H vs Q E hr h=>?_)
 ·obtain⟨a,ns,rfl,_⟩:=h
  rfl
 ·obtain⟨a,ns,rfl,hS,k⟩:=h
  refine⟨_,(a0q (b0w (y0u (l0e d0d (l0f (v0u K) (pv 0) o0p (o0o a0j)) (l0e d0d a0j (l0e d0d a0j y0s))) rfl rfl (by simp) (by decide)))),?_⟩
  intro t ht
  have s0:Same H (upd H t (.dK [])):=(Same.refl H).new ht
  refine⟨_,rfl,63,rfl,a,_,rfl,s0.seq hS,fun l hl=>?_⟩
  have ntl:t≠l:=a0t b0i hl
  refine⟨by rw[a0o ntl,b0i],[(Sum.inr ("cells" : Str),V.ref l),(Sum.inr ("spot" : Str),V.int 0),(Sum.inr ("left" : Str),V.int 0)],rfl,(by show 3<=15;decide),?_⟩
  rw[s0k]
  have fin:=k t l ht (s0.free hl) ntl
  have eq:upd (upd (upd H t (.dK [])) l (.lst (cutV (ns.map V.int) none (some 63)))) t (.dK (c0b l 0 0))=upd (upd H l (.lst ((ns.take 63).map V.int))) t (.dK (c0b l 0 0)):=by
   rw[d1z]
   funext b
   unfold upd
   by_cases h1:b=t
   ·rw[if_pos h1,if_pos h1]
   ·rw[if_neg h1,if_neg h1,if_neg h1]
  rw[eq]
  exact fin
theorem o0w (D:DefN K mg "_law_draw" f0h ["_law_tape_here", "_law_many"])(B:BI mg):OkN P w K mg base 1 "_law_draw" ["_law_tape_here", "_law_many"] (spA K a1g):=by
 refine OkN.imp (sp:=s0t K) ?_ z0s
 refine D.ok c0h (fun vs H Q E h=>?_) (fun f cdv A outer s H vs Q E hr h=>?_)
 ·obtain⟨t,c,m,sp,lf,ns,n,rfl,_⟩:=h
  rfl
 ·obtain⟨t,c,m,sp,lf,ns,n,rfl,hT,hC,h1,h2,h3,hn,hm,k⟩:=h
  have hu:=f0n hr
  have hm0:=hm.1
  have gl:DGet H t (kV (Sum.inr "left")) (some (.int lf)):=by rw[<- s0l (c:=c) (sp:=sp)];exact DGet.k hT
  have gs:DGet H t (kV (Sum.inr "spot")) (some (.int sp)):=by rw[<- s0j (c:=c) (lf:=lf)];exact DGet.k hT
  have gc:DGet H t (kV (Sum.inr "cells")) (some (.ref c)):=by rw[<- j0v (sp:=sp) (lf:=lf)];exact DGet.k hT
  refine⟨_,(a0f (f0u (a0v t0n (i0j hu (pv 0) d0d (fun _ _=>rfl)) a0j (b0n _))
   (a0f (a0z (i:=2) c0h.nd rfl (by first | exact Or.inl rfl | exact Or.inr rfl) (a0x h0j (i0j hu (pv 0) d0d (fun _ _=>rfl)) (pv 1)))
   (a0f (o0n hu (pv 0) d0d (a0x l0h (i0j hu (pv 0) d0d (fun _ _=>rfl)) (pv 1)) rfl)
   (a0q (b0w (pv 2)))))
   c0i)
   (a0f (a0z (i:=3) c0h.nd rfl (by first | exact Or.inl rfl | exact Or.inr rfl) (i0j hu (pv 0) d0d (fun _ _=>rfl)))
   (a0f (o0n hu (pv 0) d0d (a0x e0a (pv 3) a0j) rfl)
   (a0f (a0z (i:=4) c0h.nd rfl (by first | exact Or.inl rfl | exact Or.inr rfl) (i0j hu (pv 0) d0d (fun _ _=>rfl)))
   (a0f (a0z (i:=5) c0h.nd rfl (by first | exact Or.inl rfl | exact Or.inr rfl) a0j)
   (a0f (f0u (a0v t0n (a0w (b0j K) rfl B.len_ d0w (a0c (pv 4) a0g)) a0j (b0n _))
   (a0q (a0z (i:=5) c0h.nd rfl (by first | exact Or.inl rfl | exact Or.inr rfl) (d0p (b0h K) (pv 4) (a0x h0j (pv 3) (a0w (b0j K) rfl B.len_ d0w (a0c (pv 4) a0g))) (fun _ _=>rfl))))
   c0i)
   (a0f (f0u (PW.pt (k0a (a0v y0z (pv 5) (a0x t0m a0j a0j) (b0n _)) (g0x (a0v d1u (pv 3) (a0w (b0j K) rfl B.len_ d0w (a0c (pv 4) a0g)) (b0n _)))))
   (a0f (o0n hu (pv 0) d0d (a0x l0h (a0x h0i (pv 5) (a0x t0m a0j a0j)) (pv 1)) rfl)
   (a0q (b0w (a0x h0j (a0x h0i (pv 5) (a0x t0m a0j a0j)) (pv 1)))))
   c0i)
   (a0f (a0z (i:=6) c0h.nd rfl (by first | exact Or.inl rfl | exact Or.inr rfl) (a0x h0j (a0x m0s (a0x e0a (a0x e0a (a0x e0a (a0x h0j (pv 5) a0j) (a0x m0s (a0x m0s a0j (pv 3)) (pv 3))) (a0x m0s a0j (pv 3))) a0j) a0j) a0j))
   (a0q (b0w (a0x h0j (a0x l0h (a0x h0j (a0x m0s (pv 6) (a0x e0a (pv 6) a0j)) a0j) a0j) (pv 1)))))))))))),?_⟩
  refine⟨_,rfl,t,_,rfl,gl,_,_,rfl,rfl,_,rfl,ite2 (fun hl=>?_) fun hl=>?_⟩
  ·refine⟨_,rfl,t,_,rfl,gl,_,rfl,_,_,rfl,rfl,hm0,?_⟩
   refine⟨_,rfl,t,_,rfl,gl,_,rfl,_,_,rfl,rfl,hm,_,rfl,t,_,rfl,DPut.k (k:=Sum.inr "left") hT (e0y (by show 3<=1000;decide)),_,rfl,?_⟩
   rw[l0d]
   exact drawn (Q:=fun z H=>Q (.int z) H) hm0 fun r hr=>k r _ _ hr h1 (by omega) (Int.ediv_nonneg h3 (Int.le_of_lt hm0))
  ·refine⟨_,rfl,t,_,rfl,gs,?_⟩
   refine⟨_,rfl,_,_,rfl,rfl,_,rfl,t,_,rfl,DPut.k (k:=Sum.inr "spot") hT (e0y (by show 3<=1000;decide)),?_⟩
   rw[v0x]
   have hT1:(upd H t (.dK (c0b c (sp+1) lf))) t=some (.dK (c0b c (sp+1) lf)):=b0i
   have hC1:SqL K (upd H t (.dK (c0b c (sp+1) lf))) c (ns.map V.int):=Grow.seq (Grow.refl.upd _) hT hC
   have gr1:Grow t H (upd H t (.dK (c0b c (sp+1) lf))):=Grow.refl.upd _
   have gc1:DGet (upd H t (.dK (c0b c (sp+1) lf))) t (kV (Sum.inr "cells")) (some (.ref c)):=by rw[<- j0v (sp:=sp+1) (lf:=lf)];exact DGet.k hT1
   have kk:∀(r:Nat) (lf':Int),(r:Int)<m->0<=lf'->Q (.int (r:Nat)) (upd (upd H t (.dK (c0b c (sp+1) lf))) t (.dK (c0b c (sp+1) lf'))):=fun r lf' hr hl=>by rw[y0i];exact k r _ _ hr (by omega) (by omega) hl
   have kl:∀(r:Nat),(r:Int)<m->Q (.int (r:Nat)) (upd H t (.dK (c0b c (sp+1) lf))):=fun r hr=>k r _ _ hr (by omega) (by omega) h3
   generalize upd H t (.dK (c0b c (sp+1) lf))=H1 at hT1 hC1 gr1 gc1 kk kl ⊢
   refine⟨_,rfl,t,_,rfl,gc1,?_⟩
   have p18:(10:Int)^(18:Int).toNat=1000000000000000000:=by decide
   have fits:CPow 10 18:=⟨by decide,by decide,by decide⟩
   have pos1:(0:Int)<2147483629:=by decide
   have pos2:(0:Int)<2147483647:=by decide
   have spOk:-(2^64)<sp/\sp<2^64:=by omega
   refine⟨_,rfl,c,_,rfl,.inl hC1,_,_,rfl,rfl,_,rfl,ite2 (fun hl=>?_) fun hl=>?_⟩
   ·have hl':0<ns.length:=by
     have:=of_decide_eq_true hl
     rw[List.length_map]at this
     omega
    have el:((ns.map V.int).length:Int)=ns.length:=by rw[List.length_map]
    have hb0:0<=sp % ((ns.map V.int).length:Int):=Int.emod_nonneg _ (by omega)
    have hb1:sp % ((ns.map V.int).length:Int)<((ns.map V.int).length:Int):=Int.emod_lt_of_pos _ (by omega)
    obtain⟨j,hj⟩:=Int.eq_ofNat_of_zero_le hb0
    have hj':j<ns.length:=by rw[hj]at hb1;omega
    refine⟨_,rfl,_,rfl,_,rfl,c,_,rfl,.inl hC1,_,_,rfl,rfl,(by show(0:Int)<((ns.map V.int).length:Int);omega),.inl ⟨c,_,_,V.int ns[j],rfl,rfl,hC1,?_,?_⟩⟩
    ·rw[hj]
     exact p0q (by simp[hj'])
    ·generalize ns[j]=z
     refine⟨_,rfl,_,_,rfl,rfl,fits,_,_,rfl,rfl,_,rfl,ite2 (fun hz=>?_) fun hz=>?_⟩
     ·refine⟨_,rfl,_,rfl,c,_,rfl,.inl hC1,_,_,rfl,rfl,_,rfl,ite2 (fun hs=>?_) fun hs=>?_⟩
      ·refine⟨_,rfl,_,_,rfl,rfl,fits,_,_,rfl,rfl,_,rfl,_,_,rfl,rfl,hm,_,rfl,t,_,rfl,DPut.k (k:=Sum.inr "left") hT1 (e0y (by show 3<=1000;decide)),?_⟩
       rw[l0d]
       refine⟨_,rfl,_,_,rfl,rfl,fits,_,_,rfl,rfl,_,rfl,_,_,rfl,rfl,hm0,?_⟩
       refine drawn (Q:=fun z H=>Q (.int z) H) hm0 fun r hr=>kk r _ hr (Int.ediv_nonneg ?_ (Int.le_of_lt hm0))
       have hz':=of_decide_eq_true hz
       rw[p18]at hz' ⊢
       omega
      ·refine⟨_,rfl,_,_,rfl,rfl,pos1,_,rfl,_,_,rfl,rfl,.inl ⟨by decide,by decide⟩,_,rfl,_,_,rfl,rfl,.inr spOk,_,_,rfl,rfl,_,rfl,_,_,rfl,rfl,.inl ⟨by decide,by decide⟩,_,_,rfl,rfl,_,_,rfl,rfl,_,_,rfl,rfl,.inr ⟨by decide,by decide⟩,_,_,rfl,rfl,pos2,?_⟩
       refine⟨_,rfl,_,rfl,_,_,rfl,rfl,_,_,rfl,rfl,.inl p0y,_,_,rfl,rfl,pos1,_,_,rfl,rfl,dv64,_,rfl,_,_,rfl,rfl,hm0,?_⟩
       exact drawn (Q:=fun z H=>Q (.int z) H) hm0 fun r hr=>kl r hr
     ·refine⟨_,rfl,_,_,rfl,rfl,pos1,_,rfl,_,_,rfl,rfl,.inl ⟨by decide,by decide⟩,_,rfl,_,_,rfl,rfl,.inr spOk,_,_,rfl,rfl,_,rfl,_,_,rfl,rfl,.inl ⟨by decide,by decide⟩,_,_,rfl,rfl,_,_,rfl,rfl,_,_,rfl,rfl,.inr ⟨by decide,by decide⟩,_,_,rfl,rfl,pos2,?_⟩
      refine⟨_,rfl,_,rfl,_,_,rfl,rfl,_,_,rfl,rfl,.inl p0y,_,_,rfl,rfl,pos1,_,_,rfl,rfl,dv64,_,rfl,_,_,rfl,rfl,hm0,?_⟩
      exact drawn (Q:=fun z H=>Q (.int z) H) hm0 fun r hr=>kl r hr
   ·refine⟨_,rfl,_,_,rfl,rfl,fits,_,_,rfl,rfl,_,rfl,ite2 (fun hz=>?_) fun hz=>?_⟩
    ·refine⟨_,rfl,_,rfl,c,_,rfl,.inl hC1,_,_,rfl,rfl,_,rfl,ite2 (fun hs=>?_) fun hs=>?_⟩
     ·refine⟨_,rfl,_,_,rfl,rfl,fits,_,_,rfl,rfl,_,rfl,_,_,rfl,rfl,hm,_,rfl,t,_,rfl,DPut.k (k:=Sum.inr "left") hT1 (e0y (by show 3<=1000;decide)),?_⟩
      rw[l0d]
      refine⟨_,rfl,_,_,rfl,rfl,fits,_,_,rfl,rfl,_,rfl,_,_,rfl,rfl,hm0,?_⟩
      refine drawn (Q:=fun z H=>Q (.int z) H) hm0 fun r hr=>kk r _ hr (Int.ediv_nonneg ?_ (Int.le_of_lt hm0))
      have hz':=of_decide_eq_true hz
      rw[p18]at hz' ⊢
      omega
     ·refine⟨_,rfl,_,_,rfl,rfl,pos1,_,rfl,_,_,rfl,rfl,.inl ⟨by decide,by decide⟩,_,rfl,_,_,rfl,rfl,.inr spOk,_,_,rfl,rfl,_,rfl,_,_,rfl,rfl,.inl ⟨by decide,by decide⟩,_,_,rfl,rfl,_,_,rfl,rfl,_,_,rfl,rfl,.inr ⟨by decide,by decide⟩,_,_,rfl,rfl,pos2,?_⟩
      refine⟨_,rfl,_,rfl,_,_,rfl,rfl,_,_,rfl,rfl,.inl p0y,_,_,rfl,rfl,pos1,_,_,rfl,rfl,dv64,_,rfl,_,_,rfl,rfl,hm0,?_⟩
      exact drawn (Q:=fun z H=>Q (.int z) H) hm0 fun r hr=>kl r hr
    ·refine⟨_,rfl,_,_,rfl,rfl,pos1,_,rfl,_,_,rfl,rfl,.inl ⟨by decide,by decide⟩,_,rfl,_,_,rfl,rfl,.inr spOk,_,_,rfl,rfl,_,rfl,_,_,rfl,rfl,.inl ⟨by decide,by decide⟩,_,_,rfl,rfl,_,_,rfl,rfl,_,_,rfl,rfl,.inr ⟨by decide,by decide⟩,_,_,rfl,rfl,pos2,?_⟩
     refine⟨_,rfl,_,rfl,_,_,rfl,rfl,_,_,rfl,rfl,.inl p0y,_,_,rfl,rfl,pos1,_,_,rfl,rfl,dv64,_,rfl,_,_,rfl,rfl,hm0,?_⟩
     exact drawn (Q:=fun z H=>Q (.int z) H) hm0 fun r hr=>kl r hr
end
def rw1 (rows:List Nat)(i:Nat):Nat:=rows.getD i 0
def adj (rows:List Nat)(i j:Nat):Prop:=rw1 rows i &&& rw1 rows j≠0
theorem v0e {rows:List Nat}{i j:Nat}(h:adj rows i j):adj rows j i:=by unfold adj at h ⊢;rwa [Nat.and_comm]
inductive Conn (rows:List Nat):Nat->Nat->Prop
 | refl {i:Nat} (h:i<rows.length):Conn rows i i
 | step {i j k:Nat} (c:Conn rows i j) (h:k<rows.length) (a:adj rows j k):Conn rows i k
theorem Conn.lt {rows:List Nat}{i j:Nat}(c:Conn rows i j):i<rows.length/\j<rows.length:=by
 induction c with
 | refl h=>exact⟨h,h⟩
 | step c h a ih=>exact⟨ih.1,h⟩
theorem Conn.trans {rows:List Nat}{i j k:Nat}(c:Conn rows i j)(d:Conn rows j k):Conn rows i k:=by
 induction d with
 | refl h=>exact c
 | step d h a ih=>exact ih.step h a
theorem Conn.one {rows:List Nat}{i j:Nat}(hi:i<rows.length)(hj:j<rows.length)(a:adj rows i j):Conn rows i j:=(Conn.refl hi).step hj a
theorem Conn.symm {rows:List Nat}{i j:Nat}(c:Conn rows i j):Conn rows j i:=by
 induction c with
 | refl h=>exact .refl h
 | step c h a ih=>exact(Conn.one h c.lt.2 (v0e a)).trans ih
open Classical in
noncomputable def comp (rows:List Nat)(p:Nat):List Nat:=(List.range rows.length).filter fun j=>decide (Conn rows p j)
open Classical in
theorem c0g {rows:List Nat}{p j:Nat}:j∈comp rows p↔Conn rows p j:=by
 unfold comp
 rw[List.mem_filter,List.mem_range,decide_eq_true_eq]
 exact⟨fun h=>h.2,fun h=>⟨h.lt.2,h⟩⟩
theorem j0a (rows:List Nat)(p:Nat):(comp rows p).Pairwise (· < ·):=List.Pairwise.filter _ List.pairwise_lt_range
theorem q0a {xs ys:List Nat}(h1:xs.Pairwise (· < ·))(h2:ys.Pairwise (· < ·))(h:∀x,x∈xs↔x∈ys):xs=ys :=
 List.Perm.eq_of_pairwise (le:=(· < ·)) (fun a b _ _ q1 q2=>by omega) h1 h2 ((List.perm_ext_iff_of_nodup (h1.imp fun h=>by omega) (h2.imp fun h=>by omega)).mpr h)
theorem z0w {rows:List Nat}{p q:Nat}(c:Conn rows p q):comp rows p=comp rows q :=
 q0a (j0a rows p) (j0a rows q) fun x=>by rw[c0g,c0g];exact⟨fun h=>c.symm.trans h,fun h=>c.trans h⟩
theorem p0j {rows:List Nat}{S:List Nat}{p:Nat}(up:S.Pairwise (· < ·))(hp:p∈S)(hs:∀j∈S,Conn rows p j)(hc:∀i∈S,∀j,j<rows.length->adj rows i j->j∈S):S=comp rows p:=by
 refine q0a up (j0a rows p) fun x=>?_
 rw[c0g]
 refine⟨hs x,fun c=>?_⟩
 induction c with
 | refl h=>exact hp
 | step c h a ih=>exact hc _ ih _ h a
structure Cl (rows:List Nat)(k:Nat)(cls:List (List Nat)):Prop where
 inc:∀C∈cls,C.Pairwise (· < ·)
 ne:∀C∈cls,C≠[]
 cov:∀j,j<k->∃C∈cls,j∈C
 lt:∀C∈cls,∀j∈C,j<k
 dj:∀C∈cls,∀C'∈cls,∀j,j∈C->j∈C'->C=C'
 nd:cls.Nodup
 con:∀C∈cls,∀i∈C,∀j∈C,Conn rows i j
 cl:∀C∈cls,∀i∈C,∀j,j<k->adj rows i j->j∈C
theorem Cl.start {rows:List Nat}:Cl rows 0 []:=⟨(fun _ h=>nomatch h),(fun _ h=>nomatch h),(fun j h=>by omega),(fun _ h=>nomatch h),(fun _ h=>nomatch h),List.nodup_nil,(fun _ h=>nomatch h),(fun _ h=>nomatch h)⟩
def f0b (rows:List Nat)(k:Nat)(C:List Nat):Bool:=C.any fun i=>rw1 rows i &&& rw1 rows k != 0
theorem g0k {rows:List Nat}{k:Nat}{C:List Nat}:f0b rows k C=true↔∃i∈C,adj rows i k:=by
 unfold f0b adj
 rw[List.any_eq_true]
 simp
def metC (rows:List Nat)(k:Nat)(cls:List (List Nat)):List (List Nat):=cls.filter (f0b rows k)
def farC (rows:List Nat)(k:Nat)(cls:List (List Nat)):List (List Nat):=cls.filter fun C=>!f0b rows k C
theorem Cl.flat {rows:List Nat}{k:Nat}{cls:List (List Nat)}(c:Cl rows k cls):((metC rows k cls).flatten++[k]).Nodup:=by
 have sub:∀C∈metC rows k cls,C∈cls:=fun C h=>(List.mem_filter.mp h).1
 have nd:(metC rows k cls).Nodup:=List.Pairwise.filter _ c.nd
 have fl:(metC rows k cls).flatten.Nodup:=by
  generalize metC rows k cls=M at sub nd
  induction M with
  | nil=>exact List.nodup_nil
  | cons C M ih =>
   rw[List.flatten_cons]
   have hC:=sub C (List.mem_cons_self ..)
   obtain⟨n1,n2⟩:=List.nodup_cons.mp nd
   refine List.nodup_append.mpr ⟨(c.inc C hC).imp fun h=>by omega,ih (fun C' h=>sub C' (List.mem_cons_of_mem _ h)) n2,fun a ha b hb e=>?_⟩
   subst e
   obtain⟨C',hC',hb'⟩:=List.mem_flatten.mp hb
   have:=c.dj C hC C' (sub C' (List.mem_cons_of_mem _ hC')) a ha hb'
   subst this
   exact n1 hC'
 refine List.nodup_append.mpr ⟨fl,List.nodup_cons.mpr ⟨(fun h=>nomatch h),List.nodup_nil⟩,fun a ha b hb e=>?_⟩
 rw[List.mem_singleton.mp hb]at e
 subst e
 obtain⟨C,hC,ha'⟩:=List.mem_flatten.mp ha
 have:=c.lt C (sub C hC) _ ha'
 omega
theorem Cl.next {rows:List Nat}{k:Nat}{cls:List (List Nat)}(c:Cl rows k cls)(hk:k<rows.length){N:List Nat}(pm:N.Perm ((metC rows k cls).flatten++[k]))(up:N.Pairwise (· <= ·)):Cl rows (k+1) (farC rows k cls++[N]):=by
 have hm:∀j,j∈N↔(∃C∈cls,f0b rows k C=true/\j∈C)∨j=k:=fun j=>by
  rw[pm.mem_iff,List.mem_append,List.mem_flatten,List.mem_singleton]
  constructor
  ·rintro(⟨C,hC,h⟩ | h)
   ·exact .inl ⟨C,(List.mem_filter.mp hC).1,(List.mem_filter.mp hC).2,h⟩
   ·exact .inr h
  ·rintro(⟨C,h1,h2,h3⟩ | h)
   ·exact .inl ⟨C,List.mem_filter.mpr ⟨h1,h2⟩,h3⟩
   ·exact .inr h
 have hup:N.Pairwise (· < ·):=by
  have nd:N.Nodup:=pm.nodup_iff.mpr c.flat
  exact(List.Pairwise.and up nd).imp fun{a b} z=>by have h1:=z.1;have h2:=z.2;omega
 have far:∀C,C∈farC rows k cls↔C∈cls/\f0b rows k C=false:=fun C=>by
  unfold farC
  rw[List.mem_filter]
  simp
 have cases':∀C,C∈farC rows k cls++[N]↔(C∈cls/\f0b rows k C=false)∨C=N:=fun C=>by rw[List.mem_append,far,List.mem_singleton]
 have conN:∀i∈N,Conn rows i k:=fun i hi=>by
  rcases(hm i).mp hi with⟨C,h1,h2,h3⟩ | h
  ·obtain⟨x,hx,a⟩:=g0k.mp h2
   exact(c.con C h1 i h3 x hx).step hk a
  ·subst h;exact .refl hk
 have kN:k∈N:=(hm k).mpr (.inr rfl)
 refine⟨fun C h=>?_,fun C h=>?_,fun j hj=>?_,fun C h j hj=>?_,fun C h C' h' j h1 h2=>?_,?_,fun C h i hi j hj=>?_,fun C h i hi j hj a=>?_⟩
 ·rcases(cases' C).mp h with q | rfl
  ·exact c.inc C q.1
  ·exact hup
 ·rcases(cases' C).mp h with q | rfl
  ·exact c.ne C q.1
  ·exact List.ne_nil_of_mem kN
 ·rcases Nat.lt_or_ge j k with g | g
  ·obtain⟨C,h1,h2⟩:=c.cov j g
   cases hmm:f0b rows k C with
   | true=>exact⟨N,(cases' N).mpr (.inr rfl),(hm j).mpr (.inl ⟨C,h1,hmm,h2⟩)⟩
   | false=>exact⟨C,(cases' C).mpr (.inl ⟨h1,hmm⟩),h2⟩
  ·have:j=k:=by omega
   subst this
   exact⟨N,(cases' N).mpr (.inr rfl),kN⟩
 ·rcases(cases' C).mp h with q | rfl
  ·have:=c.lt C q.1 j hj;omega
  ·rcases(hm j).mp hj with⟨C,h1,h2,h3⟩ | h
   ·have:=c.lt C h1 j h3;omega
   ·omega
 ·have fN:∀C,C∈cls->f0b rows k C=false->j∈C->j∈N->False:=fun C q1 q2 h1 h2=>by
   rcases(hm j).mp h2 with⟨C2,e1,e2,e3⟩ | e
   ·have:=c.dj C q1 C2 e1 j h1 e3
    subst this
    rw[q2]at e2;cases e2
   ·have:=c.lt C q1 j h1;omega
  rcases(cases' C).mp h with q | rfl
  ·rcases(cases' C').mp h' with q' | rfl
   ·exact c.dj C q.1 C' q'.1 j h1 h2
   ·exact(fN C q.1 q.2 h1 h2).elim
  ·rcases(cases' C').mp h' with q' | rfl
   ·exact(fN C' q'.1 q'.2 h2 h1).elim
   ·rfl
 ·refine List.nodup_append.mpr ⟨List.Pairwise.filter _ c.nd,List.nodup_cons.mpr ⟨(fun h=>nomatch h),List.nodup_nil⟩,fun a ha b hb e=>?_⟩
  rw[List.mem_singleton.mp hb]at e
  subst e
  have:=((far _).mp ha).1
  have:=c.lt _ this k kN
  omega
 ·rcases(cases' C).mp h with q | rfl
  ·exact c.con C q.1 i hi j hj
  ·exact(conN i hi).trans (conN j hj).symm
 ·rcases(cases' C).mp h with q | rfl
  ·rcases Nat.lt_or_ge j k with g | g
   ·exact c.cl C q.1 i hi j g a
   ·have:j=k:=by omega
    subst this
    have:f0b rows j C=true:=g0k.mpr ⟨i,hi,a⟩
    rw[q.2]at this;cases this
  ·rcases Nat.lt_or_ge j k with g | g
   ·rcases(hm i).mp hi with⟨C,h1,h2,h3⟩ | e
    ·exact(hm j).mpr (.inl ⟨C,h1,h2,c.cl C h1 i h3 j g a⟩)
    ·subst e
     obtain⟨C,h1,h2⟩:=c.cov j g
     exact(hm j).mpr (.inl ⟨C,h1,g0k.mpr ⟨j,h2,v0e a⟩,h2⟩)
   ·have:j=k:=by omega
    subst this;exact kN
theorem Cl.all {rows:List Nat}{cls:List (List Nat)}(c:Cl rows rows.length cls){C:List Nat}:C∈cls↔∃p,p<rows.length/\C=comp rows p:=by
 constructor
 ·intro h
  obtain⟨p,hp⟩:=List.exists_mem_of_ne_nil C (c.ne C h)
  exact⟨p,c.lt C h p hp,p0j (c.inc C h) hp (fun j hj=>c.con C h p hp j hj) (fun i hi j hj a=>c.cl C h i hi j hj a)⟩
 ·rintro⟨p,hp,rfl⟩
  obtain⟨C,h1,h2⟩:=c.cov p hp
  rw[<- p0j (c.inc C h1) h2 (fun j hj=>c.con C h1 p h2 j hj) (fun i hi j hj a=>c.cl C h1 i hi j hj a)]
  exact h1
open Classical in
noncomputable def a0l (rows:List Nat)(n:Nat):List (List Nat):=((List.range n).filter fun p=>decide (∀j,Conn rows p j->p<=j)).map (comp rows)
theorem d1w {p:Nat->Prop}(h:∃n,p n):∃n,p n/\∀k,p k->n<=k:=by
 obtain⟨n,hn⟩:=h
 induction n using Nat.strongRecOn with
 | ind n ih =>
  by_cases g:∃m,m<n/\p m
  ·obtain⟨m,h1,h2⟩:=g
   exact ih m h1 h2
  ·refine⟨n,hn,fun k hk=>?_⟩
   rcases Nat.lt_or_ge k n with z | z
   ·exact absurd ⟨k,z,hk⟩ g
   ·exact z
open Classical in
theorem i0z {rows:List Nat}{n:Nat}(hn:n<=rows.length){p:Nat}(hp:p<rows.length):comp rows p∈a0l rows n↔∃q,q<n/\Conn rows p q:=by
 unfold a0l
 rw[List.mem_map]
 constructor
 ·rintro⟨q,hq,e⟩
  obtain⟨h1,h2⟩:=List.mem_filter.mp hq
  have h1:=List.mem_range.mp h1
  refine⟨q,h1,?_⟩
  have:q∈comp rows p:=by rw[<- e,c0g];exact .refl (by omega)
  exact c0g.mp this
 ·rintro⟨q,h1,h2⟩
  obtain⟨l,l1,l2⟩:=d1w (p:=fun j=>Conn rows p j) ⟨q,h2⟩
  refine⟨l,List.mem_filter.mpr ⟨List.mem_range.mpr (by have:=l2 q h2;omega),decide_eq_true fun j c=>l2 j (l1.trans c)⟩,(z0w l1).symm⟩
theorem r0t {rows:List Nat}{n:Nat}(hn:n<rows.length):(comp rows n∈a0l rows n->a0l rows (n+1)=a0l rows n)/\(comp rows n∉a0l rows n->a0l rows (n+1)=a0l rows n++[comp rows n]):=by
 have key:comp rows n∈a0l rows n↔¬ ∀j,Conn rows n j->n<=j:=by
  rw[i0z (Nat.le_of_lt hn) hn]
  constructor
  ·rintro⟨q,h1,h2⟩ h
   have:=h q h2
   omega
  ·intro h
   apply Classical.byContradiction
   intro z
   refine h fun j c=>?_
   rcases Nat.lt_or_ge j n with g | g
   ·exact absurd ⟨j,g,c⟩ z
   ·exact g
 constructor
 ·intro h
  have h':=key.mp h
  unfold a0l
  rw[List.range_succ,List.filter_append,List.map_append,List.filter_cons_of_neg (by simpa using h')]
  simp
 ·intro h
  have h':∀j,Conn rows n j->n<=j:=by
   apply Classical.byContradiction
   intro z
   exact h (key.mpr z)
  unfold a0l
  rw[List.range_succ,List.filter_append,List.map_append,List.filter_cons_of_pos (by simpa using h')]
  simp
def castL (C:List Nat):List Int:=C.map fun x=>((x:Nat):Int)
open Classical in
theorem n0t {rows:List Nat}{n:Nat}(hn:n<=rows.length):((a0l rows n).map castL).Pairwise leL:=by
 unfold a0l
 rw[List.map_map]
 refine List.pairwise_map.mpr ?_
 refine List.Pairwise.imp_of_mem (fun{p q} hp hq lt=>?_) (List.Pairwise.filter _ List.pairwise_lt_range)
 obtain⟨p1,p2⟩:=List.mem_filter.mp hp
 obtain⟨q1,q2⟩:=List.mem_filter.mp hq
 have p2:=of_decide_eq_true p2
 have q2:=of_decide_eq_true q2
 have p1:=List.mem_range.mp p1
 have q1:=List.mem_range.mp q1
 have head:∀x,x<rows.length->(∀j,Conn rows x j->x<=j)->∃r,comp rows x=x::r:=fun x hx h=>by
  have hm:x∈comp rows x:=c0g.mpr (.refl hx)
  have up:=j0a rows x
  cases hc:comp rows x with
  | nil=>rw[hc]at hm;cases hm
  | cons y r =>
   rw[hc]at hm up
   have hy:Conn rows x y:=c0g.mp (by rw[hc];exact List.mem_cons_self ..)
   have:=h y hy
   rcases List.mem_cons.mp hm with e | e
   ·exact⟨r,by rw[e]⟩
   ·have:=(List.pairwise_cons.mp up).1 x e
    omega
 obtain⟨r1,e1⟩:=head p (by omega) p2
 obtain⟨r2,e2⟩:=head q (by omega) q2
 show HT.lexLt (castL (comp rows q)) (castL (comp rows p))=false
 rw[e1,e2]
 show HT.lexLt (((q:Nat):Int)::r2.map _) (((p:Nat):Int)::r1.map _)=false
 rw[HT.lexLt_cons,if_neg (by omega)]
 exact decide_eq_false (by omega)
open Classical in
theorem w0r {rows:List Nat}{n:Nat}(hn:n<=rows.length):(a0l rows n).Nodup:=by
 unfold a0l
 refine List.pairwise_map.mpr ?_
 refine List.Pairwise.imp_of_mem (fun{p q} hp hq lt e=>?_) (List.Pairwise.filter _ List.pairwise_lt_range)
 obtain⟨q1,q2⟩:=List.mem_filter.mp hq
 have q2:=of_decide_eq_true q2
 have q1:=List.mem_range.mp q1
 have p1:=List.mem_range.mp (List.mem_filter.mp hp).1
 have:p∈comp rows q:=by rw[<- e,c0g];exact .refl (by omega)
 have:=q2 p (c0g.mp this)
 omega
theorem Cl.sorted {rows:List Nat}{cls:List (List Nat)}(c:Cl rows rows.length cls){nss:List (List Int)}(pm:nss.Perm (cls.map castL))(so:nss.Pairwise leL):nss=(a0l rows rows.length).map castL:=by
 refine o0j (pm.trans (List.Perm.map _ ?_)) so (n0t (Nat.le_refl _))
 refine(List.perm_ext_iff_of_nodup c.nd (w0r (Nat.le_refl _))).mpr fun C=>?_
 rw[c.all]
 constructor
 ·rintro⟨p,hp,rfl⟩
  exact(i0z (Nat.le_refl _) hp).mpr ⟨p,hp,.refl hp⟩
 ·intro h
  unfold a0l at h
  obtain⟨p,hp,rfl⟩:=List.mem_map.mp h
  exact⟨p,List.mem_range.mp (List.mem_filter.mp hp).1,rfl⟩
def c0u (m:Nat)(rs:List Nat):D:=.tup [nD m,.tup (a0e rs)]
def p0t:ASp:=fun ss q=>∃r:Nat,ss=[nv r]/\r<4096/\q (.f (a0e (e0b r))) [nv r]
def j0i:ASp:=fun ss q=>∃r:Nat,ss=[nv r]/\r<4096/\q (.d (nD (e0b r).length)) [nv r]
theorem z0o {r:Nat}(h:1<=r):0<(e0b r).length:=by
 have:r.log2∈e0b r:=by
  unfold e0b
  rw[List.mem_filter,List.mem_range]
  have h0:r≠0:=by omega
  refine⟨by unfold e0q;rw[if_neg h0];omega,?_⟩
  exact Nat.testBit_log2 h0
 exact List.length_pos_of_mem this
theorem c1x {r:Nat}(h:r<4096):(e0b r).length<=12:=by
 unfold e0b
 have:=List.length_filter_le r.testBit (List.range (e0q r))
 rw[List.length_range]at this
 have hb:e0q r<=12:=L2.a1b (m:=12) (by omega)
 omega
def lstN (t:List Nat):D:=.lst (a0e t)
theorem i0q (C:List Nat):lstI (castL C)=lstN C:=by unfold lstI lstN castL a0e;rw[List.map_map];rfl
structure e0v (rows:List Nat):Prop where
 l1:1<=rows.length
 l24:rows.length<=24
 r:∀r∈rows,1<=r/\r<4096
theorem e0v.at {rows:List Nat}(h:e0v rows){i:Nat}(hi:i<rows.length):1<=rw1 rows i/\rw1 rows i<4096:=h.r _ (by unfold rw1;rw[List.getD_eq_getElem?_getD,List.getElem?_eq_getElem hi];exact List.getElem_mem hi)
def orN (rows:List Nat)(C:List Nat):Nat:=C.foldl (fun a i=>a ||| rw1 rows i) 0
def wt (r:Nat):Nat:=(e0b r).length
section
variable {n:Nat}{js:List Nat}{c:En->Prop}{g:AG}{tc:AT}{te:AE}{q:List D->En->Prop}
theorem f0c {α:Type}(h:α->D)(p:α->Bool)(f:α->D){xs:List α}{ρ:En}(hc:c ρ)(hs:∀x acc (N:List D->En->Prop),x∈xs->N (if p x=true then acc++[f x]else acc) ρ->b1b n js g tc te ρ (h x) acc N)
  (hd:q ((xs.filter p).map f) ρ):g0t n js c g tc te q (xs.map h) [] ρ:=by
 refine d0b (fun k acc ρ'=>ρ'=ρ/\acc=((xs.take k).filter p).map f) (fun k acc ρ' _ h=>h.1▸hc) ?_ ?_ ρ ⟨rfl,rfl⟩
 ·rintro k d acc _ N hk ⟨rfl,rfl⟩ hN
  rw[List.getElem?_map]at hk
  obtain⟨x,e1,rfl⟩:=Option.map_eq_some_iff.mp hk
  refine hs x _ N (List.mem_of_getElem? e1) (hN _ _ ⟨rfl,?_⟩)
  rw[List.take_add_one,e1,Option.toList_some,List.filter_append,List.map_append]
  cases hp:p x <;> simp[hp]
 ·rintro acc _ ⟨rfl,rfl⟩
  rw[List.length_map,List.take_length];exact hd
end
theorem b1a {i j:Nat}{d1 d2:D}{ρ:En}{k:En->Prop}(h:k (pt (pt ρ i (.vl d1)) j (.vl d2))):z0p 2 (u0i (q0n i) (u0i (q0n j) gaNil)) (.tup [d1,d2]) ρ k:=h
theorem q0m (n:Nat)(xs:List Nat):inD (nD n) (a0e xs)=xs.contains n:=by
 unfold inD a0e
 rw[List.any_map]
 induction xs with
 | nil=>rfl
 | cons x xs ih =>
  rw[List.any_cons,List.contains_cons,ih]
  congr 1
  show eqD (nD x) (nD n)=(n==x)
  unfold eqD
  show decide ((x:Int)=(n:Int))=(n==x)
  by_cases h:n=x
  ·subst h;simp
  ·have:¬((x:Int)=(n:Int)):=by omega
   simp[h,this]
theorem x0s {neg:Bool}{r2:R}{ρ:En}{q:Ko}{xs:List Nat}{n:Nat}(hv:view ρ r2=some (.lst (a0e xs)))(hq:q (.d (.bl (if neg then !xs.contains n else xs.contains n))) ρ):gIn neg (.d (nD n)) r2 ρ q:=by
 unfold gIn
 have e1:view ρ (.d (nD n))=some (nD n):=rfl
 rw[e1,hv]
 refine⟨⟨rfl,List.all_eq_true.mpr fun d hd=>?_⟩,?_⟩
 ·obtain⟨x,_,rfl⟩:=List.mem_map.mp hd;rfl
 ·rw[q0m];exact hq
theorem x0r {neg:Bool}{r2:R}{ρ:En}{q:Ko}{xs:List Nat}{n:Nat}(hv:view ρ r2=some (.tup (a0e xs)))(hq:q (.d (.bl (if neg then !xs.contains n else xs.contains n))) ρ):gIn neg (.d (nD n)) r2 ρ q:=by
 unfold gIn
 have e1:view ρ (.d (nD n))=some (nD n):=rfl
 rw[e1,hv]
 refine⟨⟨rfl,List.all_eq_true.mpr fun d hd=>?_⟩,?_⟩
 ·obtain⟨x,_,rfl⟩:=List.mem_map.mp hd;rfl
 ·rw[q0m];exact hq
theorem h0x (P:Nat->Bool)(xs:List Nat)(x:Nat):a0e ((xs++[x]).filter P)=if P x=true then a0e (xs.filter P)++[nD x]else a0e (xs.filter P):=by
 rw[List.filter_append]
 unfold a0e
 rw[List.map_append]
 cases h:P x <;> simp[h]
theorem n0p:∀a b:List Nat,eqDs (a0e a) (a0e b)=decide (a=b)
 | [],[]=>rfl
 | [],_::_=>rfl
 | _::_,[]=>rfl
 | x::a,y::b=>by
  show(eqD (nD x) (nD y)&&eqDs (a0e a) (a0e b))=_
  rw[n0p a b]
  have:eqD (nD x) (nD y)=decide (x=y):=by
   unfold eqD
   show decide (((x:Nat):Int)=((y:Nat):Int))=_
   rw[decide_eq_decide];omega
  rw[this,Bool.eq_iff_iff]
  simp
theorem q0r (a b:List Nat):eqD (lstN a) (lstN b)=decide (a=b):=by
 unfold lstN
 show eqDs (a0e a) (a0e b)=_
 exact n0p a b
theorem o0t {rows:List Nat}{r:Nat}:∀(C:List Nat) (a:Nat),(C.foldl (fun a i=>a ||| rw1 rows i) a) &&& r=0↔a &&& r=0/\∀i∈C,rw1 rows i &&& r=0
 | [],a=>by simp
 | i::C,a=>by
  rw[List.foldl_cons,o0t C,Nat.and_or_distrib_right]
  have or0:∀x y:Nat,x ||| y=0↔x=0/\y=0:=fun x y=>by
   constructor
   ·intro h
    constructor
    ·apply Nat.eq_of_testBit_eq
     intro k
     have:=congrArg (fun z=>z.testBit k) h
     simp only[Nat.testBit_or,Nat.zero_testBit,Bool.or_eq_false_iff]at this
     rw[this.1,Nat.zero_testBit]
    ·apply Nat.eq_of_testBit_eq
     intro k
     have:=congrArg (fun z=>z.testBit k) h
     simp only[Nat.testBit_or,Nat.zero_testBit,Bool.or_eq_false_iff]at this
     rw[this.2,Nat.zero_testBit]
   ·rintro⟨rfl,rfl⟩;rfl
  rw[or0]
  simp only[List.mem_cons,forall_eq_or_imp]
  exact and_assoc
theorem w0g {rows:List Nat}{k:Nat}{C:List Nat}:f0b rows k C=(orN rows C &&& rw1 rows k != 0):=by
 rw[Bool.eq_iff_iff,g0k]
 unfold orN adj
 rw[bne_iff_ne,ne_eq,o0t]
 constructor
 ·rintro⟨i,hi,h⟩ ⟨_,z⟩
  exact h (z i hi)
 ·intro h
  apply Classical.byContradiction
  intro z
  refine h ⟨Nat.zero_and _,fun i hi=>?_⟩
  apply Classical.byContradiction
  intro y
  exact z ⟨i,hi,y⟩
theorem t0k {rows:List Nat}(h:e0v rows):∀(C:List Nat) (a:Nat),(∀i∈C,i<rows.length)->a<4096->C.foldl (fun a i=>a ||| rw1 rows i) a<4096
 | [],a,_,ha=>ha
 | i::C,a,hC,ha=>by
  rw[List.foldl_cons]
  exact t0k h C _ (fun j hj=>hC j (List.mem_cons_of_mem _ hj)) (Nat.or_lt_two_pow (n:=12) ha (h.at (hC i (List.mem_cons_self ..))).2)
theorem l0w {rows:List Nat}{C:List Nat}(h:C∈a0l rows rows.length):(∀i∈C,i<rows.length)/\C≠[]:=by
 unfold a0l at h
 obtain⟨p,hp,rfl⟩:=List.mem_map.mp h
 have:=List.mem_range.mp (List.mem_filter.mp hp).1
 exact⟨fun i hi=>(c0g.mp hi).lt.2,List.ne_nil_of_mem (c0g.mpr (.refl this))⟩
theorem g0h {C:List Nat}{n:Nat}(h:C.Pairwise (· < ·))(hb:∀x∈C,x<n):C.length<=n:=by
 have h2:=List.Nodup.length_le_of_subset (h.imp fun h=>by omega) (l₂:=List.range n) fun x hx=>List.mem_range.mpr (hb x hx)
 rwa [List.length_range]at h2
open Classical in
theorem u0t (rows:List Nat):(a0l rows rows.length).length<=rows.length:=by
 unfold a0l
 rw[List.length_map]
 refine Nat.le_trans (List.length_filter_le _ _) ?_
 rw[List.length_range];exact Nat.le_refl _
theorem q0t (rows:List Nat)(p:Nat):(comp rows p).length<=rows.length:=g0h (j0a rows p) fun x hx=>(c0g.mp hx).lt.2
theorem Cl.few {rows:List Nat}{k:Nat}{cls:List (List Nat)}(c:Cl rows k cls){C:List Nat}(h:C∈cls):C.length<=k:=g0h (c.inc C h) (c.lt C h)
def mnI:List Int->Int
 | []=>0
 | x::xs=>xs.foldl min x
theorem q0k:∀(xs:List Int) (x:Int),(xs.foldl min x∈x::xs)/\∀a∈x::xs,xs.foldl min x<=a
 | [],x=>⟨by simp,by simp⟩
 | y::xs,x=>by
  rw[List.foldl_cons]
  obtain⟨h1,h2⟩:=q0k xs (min x y)
  refine⟨?_,fun a ha=>?_⟩
  ·rcases List.mem_cons.mp h1 with e | e
   ·rw[e]
    rcases Int.le_total x y with g | g
    ·rw[Int.min_eq_left g];simp
    ·rw[Int.min_eq_right g];simp
   ·exact List.mem_cons_of_mem _ (List.mem_cons_of_mem _ e)
  ·have hm:=h2 (min x y) (List.mem_cons_self ..)
   rcases List.mem_cons.mp ha with rfl | ha
   ·omega
   ·rcases List.mem_cons.mp ha with rfl | ha
    ·omega
    ·exact h2 a (List.mem_cons_of_mem _ ha)
theorem x0o {ns:List Int}{M:Int}(h:M∈ns)(hl:∀a∈ns,M<=a):mnI ns=M:=by
 cases ns with
 | nil=>cases h
 | cons x xs =>
  obtain⟨h1,h2⟩:=q0k xs x
  have a:=hl _ h1
  have b:=h2 M h
  show xs.foldl min x=M
  omega
def r0a:ASp:=fun ss q=>∃(rows C:List Nat),ss=[.vl (.tup (a0e rows)),.vl (lstN C)]/\e0v rows/\(∀i∈C,i<rows.length)/\C.length<=100/\q (.d (nD (orN rows C))) [.vl (.tup (a0e rows)),.vl (lstN C)]
def m0e:ASp:=fun ss q=>∃rows:List Nat,ss=[.vl (.tup (a0e rows))]/\e0v rows/\q (.f ((a0l rows rows.length).map lstN)) [.vl (.tup (a0e rows))]
noncomputable def h0q (rows:List Nat):Int:=((a0l rows rows.length).map fun C=>((wt (orN rows C):Nat):Int) - 1).sum
def a1f:ASp:=fun ss q=>∃(rows:List Nat) (s1:Sv),(s1 = .ow ((a0l rows rows.length).map lstN))/\ss=[.vl (.tup (a0e rows)),s1]/\e0v rows/\q (.d (.int (h0q rows))) [.vl (.tup (a0e rows)),s1]
def fpl (rows:List Nat):List Nat:=(List.range rows.length).filter fun p=>decide (1<wt (rw1 rows p)) && !((rows.take p).contains (rw1 rows p))
def p0u:ASp:=fun ss q=>∃rows:List Nat,ss=[.vl (.tup (a0e rows))]/\e0v rows/\q (.f (a0e (fpl rows))) [.vl (.tup (a0e rows))]
def unlZ (rows:List Nat):Int:=((fpl rows).length:Int)+mnI ((fpl rows).map fun p=>((wt (rw1 rows p):Nat):Int)) - 2
noncomputable def n0j (rows:List Nat):D:=.tup [.int (h0q rows),.tup [.str "hang",.lst ((a0l rows rows.length).map lstN)]]
def unlD (rows:List Nat):D:=.tup [.int (unlZ rows),.tup [.str "unlike",.lst (a0e (fpl rows))]]
open Classical in
noncomputable def bndD (rows:List Nat):D:=if fpl rows=[]then n0j rows else if h0q rows<=unlZ rows then unlD rows else n0j rows
theorem x0t {rows:List Nat}{p:Nat}(h:p∈fpl rows):p<rows.length:=List.mem_range.mp (List.mem_filter.mp h).1
theorem u0m (rows:List Nat):(fpl rows).length<=rows.length:=by
 unfold fpl
 refine Nat.le_trans (List.length_filter_le _ _) ?_
 rw[List.length_range];exact Nat.le_refl _
def SUnl:ASp:=fun ss q=>∃rows:List Nat,ss=[.vl (.tup (a0e rows)),.ow (a0e (fpl rows))]/\e0v rows/\fpl rows≠[]/\q (.d (.int (unlZ rows))) [.vl (.tup (a0e rows)),.ow (a0e (fpl rows))]
def v0h:ASp:=fun ss q=>∃(m:Nat) (rows:List Nat),ss=[.vl (c0u m rows)]/\e0v rows/\q (.d (bndD rows)) [.vl (c0u m rows)]
section
variable {P:Program}{w:World}{K:PySem.W.Frag}{mg:Str->Option Value}{base:Heap}
theorem m0v (dn:DefN K mg "givens_of" d0l ["row"])(B:BI mg):OkN P w K mg base 1 "givens_of" ["row"] (spA K p0t):=by
 refine dn.aok2 (k:=0) m0m (fun j=>j==0) [] p0t rfl (fun f cdv A outer s H E hr=>have hu:=f0n hr;⟨_,(a0q (b0w (e0h ["given"] [0] rfl (Blk.of (a0i d0l) h0l) (c0q rfl B.range_ (a0c (o0s K PySem.F.plainAttrs_int PySem.F.slot_int_bit_length PySem.F.type_int_bit_length z0e (pv 0)) a0g)) (fun _ _ _ _ nd=>(b0b (i:=0) nd rfl (by first | exact Or.inl rfl | exact Or.inr rfl))) (fun _ _ _ _=>(d0y (i0h K (a0x k0d (a0x q0h (pv 1) (pv 0)) a0j) (fun _=>rfl)))) (fun _ _ _ _=>(pv 0))))),(b0o (b0x (c0n (a0a (v0o a0b) a0d)) (a0s rfl) (k0s (a0k b0a (a0k d0n a0b a0b) a0m)) a0b))⟩) ?_
 rintro ss q ⟨r,rfl,hr,hq⟩
 refine⟨rfl,rfl,?_⟩
 have hb:e0q r<=12:=by
  unfold e0q
  split
  ·omega
  ·rename_i h0
   have:=(Nat.log2_lt h0).mpr (show r<2^12 by omega)
   omega
 have eb:((Builtin.Int.intBits (r:Int):Nat):Int)=((e0q r:Nat):Int):=by rw[w0t]
 refine⟨⟨by omega,by omega⟩,by rw[c0e];omega,?_⟩
 refine d0b (fun k acc ρ=>acc=a0e ((List.range k).filter r.testBit)/\ρ=[nv r]) (fun _ _ _ _ _=>trivial) ?_ ?_ _ ⟨rfl,rfl⟩
 ·rintro k d acc _ M hk ⟨rfl,rfl⟩ hM
  obtain⟨lt,rfl⟩:=f0i hk
  rw[Int.zero_add]
  refine⟨Int.natCast_nonneg _,?_⟩
  show if(Builtin.bitAnd ((r:Int) / 2^((k:Int).toNat)) 1 != 0)=true then M (a0e ((List.range k).filter r.testBit)++[nD k]) [nv r]else M (a0e ((List.range k).filter r.testBit)) [nv r]
  rw[v0b]
  cases e:r.testBit k with
  | true=>exact hM _ _ ⟨by rw[List.range_succ,List.filter_append,<- f0l];simp[e],rfl⟩
  | false=>exact hM _ _ ⟨by rw[List.range_succ,List.filter_append];simp[e],rfl⟩
 rintro acc _ ⟨rfl,rfl⟩
 rw[c0e,eb,Int.toNat_natCast]
 exact hq
theorem t0s (dn:DefN K mg "weight" h0u ["row"])(B:BI mg)(g_givens_of:OkN P w K mg base 1 "givens_of" ["row"] (spA K p0t)):OkN P w K mg base 2 "weight" ["row"] (spA K j0i):=by
 refine dn.aok2 (k:=1) s0z (fun j=>j==0) [] j0i rfl (fun f cdv A outer s H E hr=>have hu:=f0n hr;⟨_,(a0q (b0w (a0w (b0j K) rfl B.len_ d0w (a0c (b0z g_givens_of (hr.mono (by decide)) (a0c (pv 0) a0g)) a0g)))),(b0o (b0t c0r (a0a (a0p (a0a a0b a0d)) a0d)))⟩) ?_
 rintro ss q ⟨r,rfl,hr,hq⟩
 refine⟨rfl,rfl,rfl,r,rfl,hr,?_⟩
 show q (.d (.int (((a0e (e0b r)).length:Nat):Int))) [nv r]
 rw[a0h];exact hq
theorem m0w (dn:DefN K mg "givens_in" e0g ["rows", "places"])(B:BI mg):OkN P w K mg base 1 "givens_in" ["rows", "places"] (spA K r0a):=by
 refine dn.aok2 (k:=0) d0r (fun j=>j==0||j==1) [.un,.un] r0a rfl (fun f cdv A outer s H E hr=>have hu:=f0n hr;⟨_,(a0f (a0z (i:=2) d0r.nd rfl (by first | exact Or.inl rfl | exact Or.inr rfl) a0j)
  (a0f (i0i PassesOwn.never rfl (d0m K (pv 1)) (b0b (i:=3) d0r.nd rfl (by first | exact Or.inl rfl | exact Or.inr rfl))
  (a0q (b1u (i:=2) d0r.nd rfl (by first | exact Or.inl rfl | exact Or.inr rfl) (d0p (b0h K) (pv 0) (pv 3) (fun _ _=>rfl)) c1u)))
  (a0q (b0w (pv 2))))),(a0n (a0u a0m rfl)
  (a0n (f0t (pin:=(fun j=>j==1)) (c0m a0b) (a0s rfl)
  (y0n (a0k d0t a0b a0b) rfl))
  (b0o a0b)))⟩) ?_
 rintro ss q ⟨rows,C,rfl,hR,hC,hl,hq⟩
 refine⟨rfl,rfl,?_⟩
 refine q0p nD (fun k ρ=>∃s3,ρ=[.vl (.tup (a0e rows)),.vl (lstN C),nv (orN rows (C.take k)),s3]) (fun _ _ _=>trivial) ?_ ?_ ⟨.un,rfl⟩
 ·rintro k p _ M hk ⟨s3,rfl⟩ hM
  have hp:=hC p (List.mem_of_getElem? hk)
  refine g0a (i:=p) (ds:=a0e rows) (d:=nD (rw1 rows p)) rfl (by rw[show rw1 rows p=rows.getD p 0 from rfl];exact e0s hp) ?_
  refine hM _ ⟨nv p,?_⟩
  have e:orN rows (C.take (k+1))=orN rows (C.take k) ||| rw1 rows p:=by
   unfold orN
   rw[List.take_add_one,hk,List.foldl_append];rfl
  rw[e,<- r0m (t0i _ _)]
  rfl
 ·rintro _ ⟨s3,rfl⟩
  rw[List.take_length]
  exact hq
theorem l0j (dn:DefN K mg "classes_of" b0v ["rows"])(B:BI mg)(g_givens_in:OkN P w K mg base 1 "givens_in" ["rows", "places"] (spA K r0a)):OkN P w K mg base 2 "classes_of" ["rows"] (spA K m0e):=by
 refine dn.aok2 (k:=1) b0y (fun j=>j==0) [.un,.un,.un,.un] m0e rfl (fun f cdv A outer s H E hr=>have hu:=f0n hr;⟨_,(a0f (a0z (i:=1) b0y.nd rfl (by first | exact Or.inl rfl | exact Or.inr rfl) (f0o a0g))
  (a0f (i0i PassesOwn.never rfl (q0e K rfl B.enumerate_ (a0c (pv 0) a0g)) (o0r K (n:=2) rfl (f0j (b0b (i:=2) b0y.nd rfl (by first | exact Or.inl rfl | exact Or.inr rfl)) (f0j (b0b (i:=3) b0y.nd rfl (by first | exact Or.inl rfl | exact Or.inr rfl)) o0q)))
  (a0f (a0z (i:=4) b0y.nd rfl (by first | exact Or.inl rfl | exact Or.inr rfl) (e0h ["places"] [0,3] rfl (Blk.of (a0i b0v) d0h) (d0m K (pv 1)) (fun _ _ _ _ nd=>(b0b (i:=0) nd rfl (by first | exact Or.inl rfl | exact Or.inr rfl))) (fun _ _ _ _=>(d0y (i0h K (a0x k0d (b0z g_givens_in (hr.mono (by decide)) (a0c (pv 1) (a0c (pv 0) a0g))) (pv 2)) (fun _=>rfl)))) (fun _ _ _ _=>(pv 0))))
  (a0f (o0m (i:=1) ["places"] [4] b0y.nd rfl (by first | exact Or.inl rfl | exact Or.inr rfl) rfl (Blk.of (a0i b0v) d0h) (d0m K (pv 1)) (fun _ _ _ _ nd=>(b0b (i:=0) nd rfl (by first | exact Or.inl rfl | exact Or.inr rfl))) (fun _ _ _ _=>(d0y (a0v (m0r K hr.units) (pv 0) (pv 1) rfl))) (fun _ _ _ _=>(pv 0)))
  (a0q (g0y (q0f K PySem.F.plainAttrs_list PySem.F.slot_list_append PySem.F.type_list_append g0j (pv 1) (a0c (a0w (j0f K) rfl B.sorted_ j0h (a0c (a0x (t0o K) (w0d ["other", "places"] [] rfl (Blk.of (a0i b0v) d0h) (d0m K (pv 4)) (fun _ _ _ _ nd=>(b0b (i:=1) nd rfl (by first | exact Or.inl rfl | exact Or.inr rfl))) (fun _ _ _ _=>i0g) (fun _ _ _ _=>(d0m K (pv 1))) (fun _ _ _ _ nd=>(b0b (i:=0) nd rfl (by first | exact Or.inl rfl | exact Or.inr rfl))) (fun _ _ _ _=>i0g) (fun _ _ _ _=>(pv 0))) (f0o (a0c (pv 2) a0g))) a0g)) a0g)))))))
  (a0q (b0w (a0w (p0p K hr.units) rfl B.sorted_ j0h (a0c (pv 1) a0g)))))),(a0n (a0u (d0x a0d) rfl)
  (a0n (f0t (pin:=(fun j=>j==0)) (j0u (a0a a0b a0d)) (k0w (d0j (a0s rfl) (d0j (a0s rfl) i0c (fun _ _ _=>h0a)) (fun _ _ _=>h0a)))
  (a0n (a0u (b0x (c0m a0b) (a0s rfl) (k0s (a0k b0a (a0p (a0a a0b (a0a a0b a0d))) a0b)) a0b) rfl)
  (a0n (k0y (b0x (c0m a0b) (a0s rfl) (a0r (a0k (t0p true) a0b a0b)) a0b) rfl)
  (h0t (k0v a0b (a0a (b0t j0e (a0a (a0k t0r (s0h (n2:=1) (c0m a0b) (a0s rfl) g0e (c0m a0b) (a0s rfl) g0e a0b) (d0x (a0a a0b a0d))) a0d)) a0d))))))
  (b0o (b0t p0n (a0a a0b a0d)))))⟩) ?_
 rintro ss q ⟨rows,rfl,hR,hq⟩
 have l24:=hR.l24
 refine⟨rfl,rfl,?_⟩
 refine cutS (fun ρ=>ρ=[.vl (.tup (a0e rows)),.ow [],.un,.un,.un]) (fun M hM=>⟨by simp,hM _ rfl⟩) ?_
 rintro _ rfl
 refine cutS (fun ρ=>∃cls s2 s3 s4,ρ=[.vl (.tup (a0e rows)),.ow (cls.map lstN),s2,s3,s4]/\Cl rows rows.length cls/\cls.length<=24) (fun M hM=>l0r (fun k ρ=>k<=rows.length/\∃cls s2 s3 s4,ρ=[.vl (.tup (a0e rows)),.ow (cls.map lstN),s2,s3,s4]/\Cl rows k cls/\cls.length<=k) (fun _ _ _ _=>trivial) ?_ ?_ _ ⟨Nat.zero_le _,[],.un,.un,.un,rfl,Cl.start,Nat.le_refl _⟩) ?_
 ·rintro k d _ M2 hk ⟨_,cls,s2,s3,s4,rfl,hc,hcl⟩ hM2
  obtain⟨x,ex,rfl⟩:=g0r hk
  rw[List.getElem?_map]at ex
  obtain⟨r,er,rfl⟩:=Option.map_eq_some_iff.mp ex
  have lt:k<rows.length:=(List.getElem?_eq_some_iff.mp er).1
  have er':rw1 rows k=r:=by unfold rw1;rw[List.getD_eq_getElem?_getD,er];rfl
  rw[Nat.zero_add]
  refine b1a ?_
  show aSeq _ _ _ [.vl (.tup (a0e rows)),.ow (cls.map lstN),nv k,nv r,s4]
  refine cutS (fun ρ=>ρ=[.vl (.tup (a0e rows)),.ow (cls.map lstN),nv k,nv r,.ow ((metC rows k cls).map lstN)]) (fun M3 hM3=>⟨rfl,by rw[List.length_map];omega,?_⟩) ?_
  ·refine f0c lstN (f0b rows k) lstN rfl (fun C acc M4 hC hM4=>?_) (hM3 _ rfl)
   have cin:=hc.lt C hC
   refine⟨rfl,rows,C,rfl,hR,fun i hi=>by have:=cin i hi;omega,by have:=hc.few hC;omega,?_⟩
   have e2:truD (.int (Builtin.bitAnd ((orN rows C:Nat):Int) ((r:Nat):Int)))=f0b rows k C:=by
    rw[m0c,w0g,er']
    show((((orN rows C &&& r:Nat):Int)) != 0)=_
    rw[Bool.eq_iff_iff]
    simp
   show if truD (.int (Builtin.bitAnd ((orN rows C:Nat):Int) ((r:Nat):Int)))=true then _ else _
   rw[e2]
   cases hm:f0b rows k C with
   | true=>rw[hm]at hM4;exact hM4
   | false=>rw[hm]at hM4;exact hM4
  rintro _ rfl
  refine cutS (fun ρ=>ρ=[.vl (.tup (a0e rows)),.ow ((farC rows k cls).map lstN),nv k,nv r,.ow ((metC rows k cls).map lstN)]) (fun M3 hM3=>⟨rfl,by rw[List.length_map];omega,?_⟩) ?_
  ·refine f0c lstN (fun C=>!f0b rows k C) lstN rfl (fun C acc M4 hC hM4=>?_) (hM3 _ rfl)
   have e2:(((metC rows k cls).map lstN).any fun e=>eqD e (lstN C))=f0b rows k C:=by
    rw[List.any_map,Bool.eq_iff_iff,List.any_eq_true]
    constructor
    ·rintro⟨C',h1,h2⟩
     have h3:eqD (lstN C') (lstN C)=true:=h2
     rw[q0r]at h3
     have:=of_decide_eq_true h3
     subst this
     exact(List.mem_filter.mp h1).2
    ·intro h
     refine⟨C,List.mem_filter.mpr ⟨hC,h⟩,?_⟩
     show eqD (lstN C) (lstN C)=true
     exact e0l _
   refine p0f rfl rfl (fun e he=>?_) e2 ?_
   ·obtain⟨C',_,rfl⟩:=List.mem_map.mp he
    exact b0q _
   ·cases hm:f0b rows k C with
    | true=>rw[hm]at hM4;exact hM4
    | false=>rw[hm]at hM4;exact hM4
  rintro _ rfl
  have fl:(metC rows k cls).flatten.length<=24:=by
   have nd:=hc.flat
   have:=List.Nodup.length_le_of_subset nd (l₂:=List.range (k+1)) fun x hx=>?_
   ·rw[List.length_append,List.length_range,List.length_singleton]at this;omega
   ·rw[List.mem_range]
    rcases List.mem_append.mp hx with z | z
    ·obtain⟨C,h1,h2⟩:=List.mem_flatten.mp z
     have:=hc.lt C (List.mem_filter.mp h1).1 x h2
     omega
    ·rw[List.mem_singleton.mp z];omega
  have fc:(farC rows k cls).length<=cls.length:=List.length_filter_le _ _
  have hml:(metC rows k cls).length<=cls.length:=List.length_filter_le _ _
  have fa:(metC rows k cls).flatMap a0e=a0e (metC rows k cls).flatten:=by
   unfold a0e
   rw[List.map_flatten,List.flatMap_def]
  refine⟨rfl,u0v lstN a0e rfl (fun C acc M4 hC hacc hM4=>?_) ?_ ?_⟩
  ·obtain⟨ys,hy1,rfl,hy2⟩:=hacc
   have yl:(ys.flatMap a0e).length<=ys.length*24:=by
    clear hM4 hy1
    induction ys with
    | nil=>simp
    | cons y ys ih =>
     have h1:=ih fun z hz=>hy2 z (List.mem_cons_of_mem _ hz)
     have h2:=hc.few (List.mem_filter.mp (hy2 y (List.mem_cons_self ..))).1
     rw[List.flatMap_cons,List.length_append,a0h,List.length_cons];omega
   have cl24:=hc.few (List.mem_filter.mp hC).1
   have y24:ys.length*24<=24*24:=Nat.mul_le_mul (by omega) (Nat.le_refl _)
   refine u0u (fun j ac ρ=>ac=ys.flatMap a0e++a0e (C.take j)/\ρ=[.un,.vl (lstN C)]) ?_ ?_ ?_ _ _ ⟨by simp[a0e],rfl⟩
   ·rintro j ac ρ _ ⟨rfl,rfl⟩
    rw[List.length_append,a0h,List.length_take]
    exact⟨by first | rfl | trivial,by omega⟩
   ·rintro j d ac _ N2 hj ⟨rfl,rfl⟩ hN2
    unfold a0e at hj
    rw[List.getElem?_map]at hj
    obtain⟨y,ey,rfl⟩:=Option.map_eq_some_iff.mp hj
    refine hN2 _ _ ⟨?_,rfl⟩
    rw[List.take_add_one,ey,Option.toList_some,List.append_assoc]
    unfold a0e
    rw[List.map_append];rfl
   ·rintro ac _ ⟨rfl,rfl⟩
    rw[a0h,List.take_length]
    exact hM4
  ·rw[fa,a0h];omega
  ·rw[fa]
   refine⟨by simp,by rw[a0h];show _+1<=_;omega,?_⟩
   refine h0b (ns:=castL ((metC rows k cls).flatten++[k])) ?_ ?_ fun ns' pm up=>?_
   ·show some (D.lst (a0e (metC rows k cls).flatten++[nD k]))=_
    unfold castL a0e
    rw[List.map_map,List.map_append];rfl
   ·unfold castL;rw[List.length_map,List.length_append,List.length_singleton];omega
   ·have nn:∀x∈ns',∃y:Nat,x=(y:Int):=fun x hx=>by
     have:=pm.mem_iff.mp hx
     unfold castL at this
     obtain⟨y,_,rfl⟩:=List.mem_map.mp this
     exact⟨y,rfl⟩
    have eN:castL (ns'.map Int.toNat)=ns':=by
     unfold castL
     rw[List.map_map]
     conv=>rhs;rw[<- List.map_id ns']
     refine List.map_congr_left fun x hx=>?_
     obtain⟨y,rfl⟩:=nn x hx
     rfl
    have pN:(ns'.map Int.toNat).Perm ((metC rows k cls).flatten++[k]):=by
     have:=pm.map Int.toNat
     refine this.trans (List.Perm.of_eq ?_)
     unfold castL
     rw[List.map_map]
     conv=>rhs;rw[<- List.map_id ((metC rows k cls).flatten++[k])]
     exact List.map_congr_left fun x _=>rfl
    have uN:(ns'.map Int.toNat).Pairwise (· <= ·):=List.pairwise_map.mpr (List.Pairwise.imp (fun h=>by omega) up)
    have hnext:=hc.next lt pN uN
    generalize ns'.map Int.toNat=N at eN pN uN hnext
    subst eN
    refine⟨by rw[List.length_map];omega,hM2 _ ⟨by omega,farC rows k cls++[N],nv k,nv r,.ow ((metC rows k cls).map lstN),?_,hnext,by rw[List.length_append,List.length_singleton];omega⟩⟩
    rw[List.map_append]
    show[Sv.vl (.tup (a0e rows)),.ow ((farC rows k cls).map lstN++[lstI (castL N)]),nv k,nv r,_]=_
    rw[i0q]
    rfl
 ·rintro _ ⟨_,cls,s2,s3,s4,rfl,hc,hcl⟩
  have e:(i0w 0 (a0e rows)).length=rows.length:=by rw[g0q,a0h]
  rw[e]at hc hcl
  exact hM _ ⟨cls,s2,s3,s4,rfl,hc,by omega⟩
 rintro _ ⟨cls,s2,s3,s4,rfl,hc,hcl⟩
 refine r0r (nss:=cls.map castL) ?_ (by rw[List.length_map];omega) (fun ns hns=>?_) fun nss' pm so=>?_
 ·show some (D.lst (cls.map lstN))=_
  rw[List.map_map]
  congr 2
  exact List.map_congr_left fun C _=>(i0q C).symm
 ·obtain⟨C,hC,rfl⟩:=List.mem_map.mp hns
  have:=hc.few hC
  refine⟨by unfold castL;rw[List.length_map];omega,fun x hx=>?_⟩
  unfold castL at hx
  obtain⟨y,hy,rfl⟩:=List.mem_map.mp hx
  have:=hc.lt C hC y hy
  omega
 ·have:=hc.sorted pm so
  subst this
  have e:((a0l rows rows.length).map castL).map lstI=(a0l rows rows.length).map lstN:=by
   rw[List.map_map]
   exact List.map_congr_left fun C _=>i0q C
  rw[e]
  exact hq
theorem j0n (dn:DefN K mg "hang_number" c0p ["rows", "classes"])(B:BI mg)(g_weight:OkN P w K mg base 2 "weight" ["row"] (spA K j0i))(g_givens_in:OkN P w K mg base 1 "givens_in" ["rows", "places"] (spA K r0a)):OkN P w K mg base 3 "hang_number" ["rows", "classes"] (spA K a1f):=by
 refine dn.aok2 (k:=2) j0l (fun j=>j==0||j==1) [] a1f rfl (fun f cdv A outer s H E hr=>have hu:=f0n hr;⟨_,(a0q (b0w (a0w (n0v K rfl) rfl B.sum_ x0x (a0c (e0h ["places"] [0] rfl (Blk.of (a0i c0p) f0q) (d0m K (pv 1)) (fun _ _ _ _ nd=>(b0b (i:=0) nd rfl (by first | exact Or.inl rfl | exact Or.inr rfl))) (fun _ _ _ _=>i0g) (fun _ _ _ _=>(a0x h0i (b0z g_weight (hr.mono (by decide)) (a0c (b0z g_givens_in (hr.mono (by decide)) (a0c (pv 1) (a0c (pv 0) a0g))) a0g)) a0j))) a0g)))),(b0o (b0t q0v (a0a (b0x (c0m a0b) (a0s rfl) g0e (a0k b0a (a0p (a0a (a0p (a0a a0b (a0a a0b a0d))) a0d)) a0m)) a0d)))⟩) ?_
 rintro ss q ⟨rows,s1,rfl,rfl,hR,hq⟩
 have l24:=hR.l24
 have hcl:=u0t rows
 refine⟨rfl,rfl,?_⟩
 refine⟨rfl,by rw[List.length_map];omega,?_⟩
 refine j0c lstN (fun C=>.int (((wt (orN rows C):Nat):Int) - 1)) rfl (fun C acc M hC hM=>?_) ?_
 ·obtain⟨h1,h2⟩:=l0w hC
  have h3:C.length<=24:=by
   unfold a0l at hC
   obtain⟨p,_,rfl⟩:=List.mem_map.mp hC
   have:=q0t rows p
   omega
  exact⟨rfl,rows,C,rfl,hR,h1,by omega,rfl,orN rows C,rfl,t0k hR C 0 h1 (by decide),hM⟩
 ·have bd:∀C∈a0l rows rows.length,1<=wt (orN rows C)/\wt (orN rows C)<=12:=fun C hC=>by
   obtain⟨h1,h2⟩:=l0w hC
   refine⟨?_,c1x (t0k hR C 0 h1 (by decide))⟩
   obtain⟨i,hi⟩:=List.exists_mem_of_ne_nil C h2
   refine z0o (Nat.pos_of_ne_zero fun z=>?_)
   have z':orN rows C &&& rw1 rows i=0:=by rw[z];exact Nat.zero_and _
   have:=((o0t C 0).mp z').2 i hi
   rw[Nat.and_self]at this
   have:=(hR.at (h1 i hi)).1
   omega
  have sm:∀L:List (List Nat),(∀C∈L,1<=wt (orN rows C)/\wt (orN rows C)<=12)->0<=(L.map fun C=>((wt (orN rows C):Nat):Int) - 1).sum/\(L.map fun C=>((wt (orN rows C):Nat):Int) - 1).sum<=12*L.length:=by
   intro L
   induction L with
   | nil=>intro _;simp
   | cons C L ih =>
    intro h
    have h1:=ih fun C' z=>h C' (List.mem_cons_of_mem _ z)
    have h2:=h C (List.mem_cons_self ..)
    rw[List.map_cons,List.sum_cons,List.length_cons]
    omega
  have:=sm _ bd
  refine u0j (ns:=(a0l rows rows.length).map fun C=>((wt (orN rows C):Nat):Int) - 1) (by rw[List.map_map];rfl) (fun n hn=>?_) ?_ hq
  ·obtain⟨C,hC,rfl⟩:=List.mem_map.mp hn
   have:=bd C hC
   omega
  ·omega
theorem h0o (dn:DefN K mg "unlike_number" b0u ["rows", "places"])(B:BI mg)(g_weight:OkN P w K mg base 2 "weight" ["row"] (spA K j0i)):OkN P w K mg base 3 "unlike_number" ["rows", "places"] (spA K SUnl):=by
 refine dn.aok2 (k:=2) h0n (fun j=>j==0||j==1) [] SUnl rfl (fun f cdv A outer s H E hr=>have hu:=f0n hr;⟨_,(a0q (b0w (a0x h0i (a0x e0a (a0w (b0j K) rfl B.len_ d0w (a0c (pv 1) a0g)) (a0w (n0w K rfl) rfl B.min_ x0y (a0c (e0h ["place"] [0] rfl (Blk.of (a0i b0u) e0u) (d0m K (pv 1)) (fun _ _ _ _ nd=>(b0b (i:=0) nd rfl (by first | exact Or.inl rfl | exact Or.inr rfl))) (fun _ _ _ _=>i0g) (fun _ _ _ _=>(b0z g_weight (hr.mono (by decide)) (a0c (d0p (b0h K) (pv 1) (pv 0) (fun _ _=>rfl)) a0g)))) a0g))) a0j))),(b0o (a0k b0a (a0k b0a (b0t c0r (a0a a0b a0d)) (b0t n0u (a0a (b0x (c0m a0b) (a0s rfl) g0e (a0p (a0a (a0k d0t a0b a0b) a0d))) a0d))) a0m))⟩) ?_
 rintro ss q ⟨rows,rfl,hR,hne,hq⟩
 have l24:=hR.l24
 have hfl:=u0m rows
 refine⟨rfl,rfl,?_⟩
 refine⟨rfl,by rw[a0h];omega,?_⟩
 refine j0c nD (fun p=>nD (wt (rw1 rows p))) rfl (fun p acc M hp hM=>?_) ?_
 ·have h1:=x0t hp
  refine g0a (i:=p) (ds:=a0e rows) (d:=nD (rw1 rows p)) rfl (by rw[show rw1 rows p=rows.getD p 0 from rfl];exact e0s h1) ?_
  exact⟨rfl,rw1 rows p,rfl,(hR.at h1).2,hM⟩
 ·refine q0o (ns:=(fpl rows).map fun p=>((wt (rw1 rows p):Nat):Int)) (by rw[List.map_map];rfl) (fun z=>hne (List.map_eq_nil_iff.mp z)) fun M h1 h2=>?_
  have:=x0o h1 h2
  unfold unlZ at hq
  rw[this]at hq
  rw[a0h]
  exact hq
theorem i0n (dn:DefN K mg "first_places" c0c ["rows"])(B:BI mg)(g_weight:OkN P w K mg base 2 "weight" ["row"] (spA K j0i)):OkN P w K mg base 3 "first_places" ["rows"] (spA K p0u):=by
 refine dn.aok2 (k:=2) i0e (fun j=>j==0) [] p0u rfl (fun f cdv A outer s H E hr=>have hu:=f0n hr;⟨_,(a0q (b0w (e0h ["place", "row"] [0] rfl (Blk.of (a0i c0c) f0a) (q0e K rfl B.enumerate_ (a0c (pv 0) a0g)) (fun _ _ _ _ nd=>(o0r K (n:=2) rfl (f0j (b0b (i:=0) nd rfl (by first | exact Or.inl rfl | exact Or.inr rfl)) (f0j (b0b (i:=1) nd rfl (by first | exact Or.inl rfl | exact Or.inr rfl)) o0q)))) (fun _ _ _ _=>(d0y (PW.pt (k0a (a0v t0n (b0z g_weight (hr.mono (by decide)) (a0c (pv 1) a0g)) a0j (b0n _)) (g0x (a0v (e0j K) (pv 1) (l0f (s0w K) (pv 2) o0p (o0o (pv 0))) rfl)))))) (fun _ _ _ _=>(pv 0))))),(b0o (b0x (j0u (a0a a0b a0d)) (k0w (d0j (a0s rfl) (d0j (a0s rfl) i0c (fun _ _ _=>h0a)) (fun _ _ _=>h0a))) (g0d (a0r (a0k i0m (a0p (a0a a0b a0d)) a0m)) (a0r (a0k (t0q true) a0b (s0f a0b s0d (m0i a0b))))) a0b))⟩) ?_
 rintro ss q ⟨rows,rfl,hR,hq⟩
 have l24:=hR.l24
 have en:(i0w 0 (a0e rows)).length=rows.length:=by rw[g0q,a0h]
 refine⟨rfl,rfl,?_⟩
 refine⟨by rw[en];omega,?_⟩
 refine d0b (fun k acc ρ=>k<=rows.length/\acc=a0e ((List.range k).filter fun p=>decide (1<wt (rw1 rows p)) && !((rows.take p).contains (rw1 rows p)))/\ρ=[.vl (.tup (a0e rows))]) (fun _ _ _ _ _=>trivial) ?_ ?_ _ ⟨Nat.zero_le _,rfl,rfl⟩
 ·rintro k d acc _ M hk ⟨_,rfl,rfl⟩ hM
  obtain⟨x,ex,rfl⟩:=g0r hk
  rw[List.getElem?_map]at ex
  obtain⟨r,er,rfl⟩:=Option.map_eq_some_iff.mp ex
  have lt:k<rows.length:=(List.getElem?_eq_some_iff.mp er).1
  have er':rw1 rows k=r:=by unfold rw1;rw[List.getD_eq_getElem?_getD,er];rfl
  rw[Nat.zero_add]
  have fs:=h0x (fun p=>decide (1<wt (rw1 rows p)) && !((rows.take p).contains (rw1 rows p))) (List.range k) k
  rw[<- List.range_succ]at fs
  refine b1a ?_
  refine⟨rfl,r,rfl,by rw[<- er'];exact(hR.at lt).2,?_⟩
  have e1:decide ((1:Int)<(((e0b r).length:Nat):Int))=decide (1<wt (rw1 rows k)):=by
   rw[er',decide_eq_decide];unfold wt;omega
  show if decide ((1:Int)<(((e0b r).length:Nat):Int))=true then _ else _
  rw[e1]
  cases h1:decide (1<wt (rw1 rows k))with
  | false=>exact hM _ _ ⟨by omega,by rw[fs];simp[h1],rfl⟩
  | true =>
   have ec:cutD (a0e rows) none (some ((k:Nat):Int))=a0e (rows.take k):=by
    rw[n0s];unfold a0e;rw[List.map_take]
   show gIn true (.d (nD r)) (.d (.tup (cutD (a0e rows) none (some ((k:Nat):Int))))) _ _
   rw[ec]
   refine x0r (xs:=rows.take k) rfl ?_
   rw[<- er']at *
   cases h2:(rows.take k).contains (rw1 rows k)with
   | true=>exact hM _ _ ⟨by omega,by rw[fs];simp only[h1,h2];rfl,rfl⟩
   | false=>exact hM _ _ ⟨by omega,by rw[fs];simp only[h1,h2];rfl,rfl⟩
 ·rintro acc _ ⟨_,rfl,rfl⟩
  rw[en]
  exact hq
theorem w0e (dn:DefN K mg "bound" l0c ["wish"])(B:BI mg)(g_classes_of:OkN P w K mg base 2 "classes_of" ["rows"] (spA K m0e))(g_first_places:OkN P w K mg base 3 "first_places" ["rows"] (spA K p0u))(g_hang_number:OkN P w K mg base 3 "hang_number" ["rows", "classes"] (spA K a1f))(g_unlike_number:OkN P w K mg base 3 "unlike_number" ["rows", "places"] (spA K SUnl)):OkN P w K mg base 4 "bound" ["wish"] (spA K v0h):=by
 refine dn.aok2 (k:=3) e0e (fun j=>j==0) [.un,.un,.un,.un,.un,.un] v0h rfl (fun f cdv A outer s H E hr=>have hu:=f0n hr;⟨_,(a0f (b1v (pv 0) (o0r K (n:=2) rfl (f0j (b0b (i:=1) e0e.nd rfl (by first | exact Or.inl rfl | exact Or.inr rfl)) (f0j (b0b (i:=2) e0e.nd rfl (by first | exact Or.inl rfl | exact Or.inr rfl)) o0q))))
  (a0f (a0z (i:=3) e0e.nd rfl (by first | exact Or.inl rfl | exact Or.inr rfl) (b0z g_classes_of (hr.mono (by decide)) (a0c (pv 2) a0g)))
  (a0f (a0z (i:=4) e0e.nd rfl (by first | exact Or.inl rfl | exact Or.inr rfl) (g0f (a0c (b0z g_hang_number (hr.mono (by decide)) (a0c (pv 2) (a0c (pv 3) a0g))) (a0c (g0f (a0c d0d (a0c (pv 3) a0g))) a0g))))
  (a0f (a0z (i:=5) e0e.nd rfl (by first | exact Or.inl rfl | exact Or.inr rfl) (b0z g_first_places (hr.mono (by decide)) (a0c (pv 2) a0g)))
  (a0f (f0u (t0e (i0h K (pv 5) (fun _=>rfl)))
  (a0q (b0w (pv 4)))
  c0i)
  (a0f (a0z (i:=6) e0e.nd rfl (by first | exact Or.inl rfl | exact Or.inr rfl) (g0f (a0c (b0z g_unlike_number (hr.mono (by decide)) (a0c (pv 2) (a0c (pv 5) a0g))) (a0c (g0f (a0c d0d (a0c (pv 5) a0g))) a0g))))
  (a0q (b0w (w0b (a0v y0z (d0p (b0h K) (pv 6) a0j (fun _ _=>rfl)) (d0p (b0h K) (pv 4) a0j (fun _ _=>rfl)) (b0n _)) (pv 6) (pv 4)))))))))),(a0n (y0o a0b (k0w (d0j (a0s rfl) (d0j (a0s rfl) i0c (fun _ _ _=>h0a)) (fun _ _ _=>h0a))))
  (a0n (a0u (a0p (a0a a0b a0d)) rfl)
  (a0n (a0u (e0d (a0a (a0p (a0a a0b (a0a a0b a0d))) (a0a (e0d (a0a k0u (a0a a0b a0d))) a0d))) rfl)
  (a0n (a0u (a0p (a0a a0b a0d)) rfl)
  (a0n (e0x (k0t (k0s a0b))
  (b0o a0b)
  c0o)
  (a0n (a0u (e0d (a0a (a0p (a0a a0b (a0a a0b a0d))) (a0a (e0d (a0a k0u (a0a a0b a0d))) a0d))) rfl)
  (b0o (b1d (a0r (a0k i0m (a0k d0t a0b a0m) (a0k d0t a0b a0m))) a0b a0b))))))))⟩) ?_
 rintro ss q ⟨m,rows,rfl,hR,hq⟩
 have l24:=hR.l24
 refine⟨rfl,rfl,?_⟩
 refine cutS (fun ρ=>ρ=[.vl (c0u m rows),nv m,.vl (.tup (a0e rows)),.un,.un,.un,.un]) (fun M hM=>hM _ rfl) ?_
 rintro _ rfl
 refine cutS (fun ρ=>ρ=[.vl (c0u m rows),nv m,.vl (.tup (a0e rows)),.ow ((a0l rows rows.length).map lstN),.un,.un,.un]) (fun M hM=>⟨rfl,rows,rfl,hR,hM _ rfl⟩) ?_
 rintro _ rfl
 refine cutS (fun ρ=>∃s3,ρ=[.vl (c0u m rows),nv m,.vl (.tup (a0e rows)),s3,.vl (n0j rows),.un,.un]) (fun M hM=>⟨rfl,rows,_,rfl,rfl,hR,by simp,by simp,hM _ ⟨_,rfl⟩⟩) ?_
 rintro _ ⟨s3,rfl⟩
 refine cutS (fun ρ=>ρ=[.vl (c0u m rows),nv m,.vl (.tup (a0e rows)),s3,.vl (n0j rows),.ow (a0e (fpl rows)),.un]) (fun M hM=>⟨rfl,rows,rfl,hR,hM _ rfl⟩) ?_
 rintro _ rfl
 by_cases hf:fpl rows=[]
 ·unfold bndD at hq
  rw[if_pos hf]at hq
  refine cutS (fun _=>False) (fun M hM=>?_) (fun _ z=>z.elim)
  rw[hf]
  exact hq
 ·unfold bndD at hq
  rw[if_neg hf]at hq
  obtain⟨p,ps,hp⟩:∃p ps,fpl rows=p::ps:=by
   cases h:fpl rows with
   | nil=>exact absurd h hf
   | cons p ps=>exact⟨p,ps,rfl⟩
  refine cutS (fun ρ=>ρ=[.vl (c0u m rows),nv m,.vl (.tup (a0e rows)),s3,.vl (n0j rows),.ow (a0e (fpl rows)),.un]) (fun M hM=>?_) ?_
  ·rw[hp]
   rw[hp]at hM
   exact hM _ rfl
  rintro _ rfl
  refine cutS (fun ρ=>∃s5,ρ=[.vl (c0u m rows),nv m,.vl (.tup (a0e rows)),s3,.vl (n0j rows),s5,.vl (unlD rows)]) (fun M hM=>⟨rfl,rows,rfl,hR,hf,by simp,by simp,hM _ ⟨_,rfl⟩⟩) ?_
  rintro _ ⟨s5,rfl⟩
  refine g0a (i:=0) (ds:=[.int (unlZ rows),.tup [.str "unlike",.lst (a0e (fpl rows))]]) (d:=.int (unlZ rows)) rfl rfl ?_
  refine g0a (i:=0) (ds:=[.int (h0q rows),.tup [.str "hang",.lst ((a0l rows rows.length).map lstN)]]) (d:=.int (h0q rows)) rfl rfl ?_
  by_cases g:h0q rows<=unlZ rows
  ·rw[if_pos g]at hq
   refine ite2 (fun _=>hq) fun z=>absurd (decide_eq_true g) z
  ·rw[if_neg g]at hq
   refine ite2 (fun z=>absurd (of_decide_eq_true z) g) fun _=>hq
end
def w0v (m:Nat)(rows:List Nat):Prop:=1<=m/\m<=12/\e0v rows/\∀r∈rows,r<2^m
def m0d:ASp:=fun ss q=>∃r:Nat,ss=[nv r]/\r<4096/\q (.d (nD (wt r))) [nv r]
def v0g:ASp:=fun ss q=>∃n:Nat,ss=[.tp n]/\n<=10000000/\∀(m:Nat) (rows:List Nat) (n':Nat),w0v m rows->n'<=n+300->q (.d (c0u m rows)) [.tp n']
open Classical in
noncomputable def wid (rows C:List Nat):List Nat:=(List.range rows.length).filter fun j=>decide (j∈C ∨ ∃i∈C,adj rows i j)
theorem n0n {P:Nat->Bool}{b:Nat}(h:∀x,b<=x->P x=false):∀d,(List.range (b+d)).filter P=(List.range b).filter P
 | 0=>rfl
 | d+1=>by rw[<- Nat.add_assoc,List.range_succ,List.filter_append,n0n h d];simp[h (b+d) (by omega)]
theorem k0h {r m:Nat}(h:r<2^m):(List.range m).filter r.testBit=e0b r:=by
 unfold e0b
 have hb:e0q r<=m:=by
  unfold e0q
  split
  ·omega
  ·rename_i h0
   have:=(Nat.log2_lt h0).mpr h
   omega
 have hz:∀x,e0q r<=x->r.testBit x=false:=fun x hx=>by
  apply Nat.testBit_lt_two_pow
  unfold e0q at hx
  split at hx
  ·rename_i e;rw[e];exact Nat.two_pow_pos x
  ·exact Nat.lt_of_lt_of_le Nat.lt_log2_self (Nat.pow_le_pow_right (by decide) hx)
 have:=n0n (P:=r.testBit) (b:=e0q r) hz (m - e0q r)
 rw[show e0q r+(m - e0q r)=m by omega]at this
 exact this
theorem v0c (a k:Nat):eqD (.int (Builtin.bitAnd ((a:Int) / 2^((k:Int).toNat)) 1)) (.int 1)=a.testBit k:=by
 rw[v0b]
 cases a.testBit k <;> simp[eqD]
theorem t0f (P:Nat->Bool):∀m,(((List.range m).filter P).map fun k=>2^k).sum<2^m
 | 0=>by simp
 | m+1=>by
  have ih:=t0f P m
  rw[List.range_succ,List.filter_append,List.map_append,List.sum_append,Nat.pow_succ]
  cases h:P m <;> simp[h] <;> omega
theorem csum (xs:List Nat):(xs.map fun k=>((2^k:Nat):Int)).sum=(((xs.map fun k=>2^k).sum:Nat):Int):=by
 induction xs with
 | nil=>rfl
 | cons x xs ih=>rw[List.map_cons,List.map_cons,List.sum_cons,List.sum_cons,ih];omega
theorem q0z {xs:List Nat}{x:Nat}(h:x<xs.length):atI (a0e xs) (-1 - (x:Int))=some (nD (xs.getD (xs.length - 1 - x) 0)):=by
 unfold atI ixN
 rw[if_neg (by omega),if_pos (by rw[a0h];omega),a0h]
 show(a0e xs)[(-1 - (x:Int)+(xs.length:Nat)).toNat]? = _
 rw[show(-1 - (x:Int)+(xs.length:Nat)).toNat=xs.length - 1 - x by omega]
 unfold a0e
 rw[List.getElem?_map,List.getElem?_eq_getElem (by omega),List.getD_eq_getElem?_getD,List.getElem?_eq_getElem (by omega)]
 rfl
theorem gE0 {a:Nat}{b:Int}{c:Bool}{ρ:En}{q:Ko}(h:decide ((a:Int)=b)=c)(hq:q (.d (.bl c)) ρ):gEq false (.d (.int (a:Int))) (.d (.int b)) ρ q:=c0t rfl rfl (by simp[D.depth]) (b:=c) (by unfold eqD;exact h) (by exact hq)
theorem e0w {rows C:List Nat}{j:Nat}:j∈wid rows C↔j<rows.length/\(j∈C ∨ ∃i∈C,adj rows i j):=by
 unfold wid
 rw[List.mem_filter,List.mem_range]
 simp
theorem i0a (rows C:List Nat):(wid rows C).Pairwise (· < ·):=List.Pairwise.filter _ List.pairwise_lt_range
theorem p0x {xs ys:List Nat}{ns':List Int}(pm:ns'.Perm (castL xs))(up:ns'.Pairwise (· <= ·))(nd:xs.Nodup)(hy:ys.Pairwise (· < ·))(hm:∀x,x∈xs↔x∈ys):ns'=castL ys:=by
 refine List.Perm.eq_of_pairwise (le:=fun a b=>a<=b) (fun a b _ _ h1 h2=>Int.le_antisymm h1 h2) up ?_ (pm.trans (List.Perm.map _ ((List.perm_ext_iff_of_nodup nd (hy.imp fun h=>by omega)).mpr hm)))
 unfold castL
 exact List.pairwise_map.mpr (hy.imp fun h=>by omega)
theorem g0u (xs:List Nat):(castL xs).map D.int=a0e xs:=by unfold castL a0e;rw[List.map_map];rfl
def v0f:ASp:=fun ss q=>∃(rows C:List Nat) (s1:Sv),(s1 = .ow (a0e C)∨s1 = .vl (lstN C))/\ss=[.vl (.tup (a0e rows)),s1]/\e0v rows/\C.Pairwise (· < ·)/\(∀i∈C,i<rows.length)/\q (.f (a0e (wid rows C))) [.vl (.tup (a0e rows)),s1]
section
variable {P:Program}{w:World}{K:PySem.W.Frag}{mg:Str->Option Value}{base:Heap}
theorem m0u (dn:DefN K mg "_law_whole" e0f ["_law_found"])(B:BI mg):OkN P w K mg base 1 "_law_whole" ["_law_found"] (spA K j0j):=by
 refine dn.aok2 (k:=0) m0l (fun j=>j==0) [] j0j rfl (fun f cdv A outer s H E hr=>have hu:=f0n hr;⟨_,(a0q (b0w (c1c (a0w (j0g K) rfl B.isinstance_ e0p (a0c (pv 0) (a0c (y0t rfl B.int_ d1f) a0g))) (b1z (c1a (a0w (j0g K) rfl B.isinstance_ e0p (a0c (pv 0) (a0c (y0t rfl B.bool_ a1a) a0g)))))))),(b0o (v0p (b0t l0z (a0a a0b (a0a s0e a0d))) (v0n (b0t l0z (a0a a0b (a0a s0e a0d))))))⟩) ?_
 rintro ss q ⟨d,rfl,hq⟩
 refine⟨rfl,rfl,?_⟩
 cases d with
 | non=>exact e0k rfl n0h hq
 | str _=>exact e0k rfl n0g hq
 | tup _=>exact e0k rfl j0p hq
 | lst _=>exact e0k rfl l0m hq
 | bl b=>exact e0k rfl l0o (e0k rfl j0q hq)
 | int i=>exact e0k rfl n0i (e0k rfl l0n hq)
theorem l0i (dn:DefN K mg "_law_weight" c0x ["_law_row"])(B:BI mg):OkN P w K mg base 1 "_law_weight" ["_law_row"] (spA K m0d):=by
 refine dn.aok2 (k:=0) l0b (fun j=>j==0) [] m0d rfl (fun f cdv A outer s H E hr=>have hu:=f0n hr;⟨_,(a0q (b0w (a0w (b0j K) rfl B.len_ d0w (a0c (e0h ["_law_k"] [0] rfl (Blk.of (a0i c0x) g0i) (c0q rfl B.range_ (a0c a0j a0g)) (fun _ _ _ _ nd=>(b0b (i:=0) nd rfl (by first | exact Or.inl rfl | exact Or.inr rfl))) (fun _ _ _ _=>(d0y (a0v (f0p K hr.units) (a0x k0d (a0x q0h (pv 1) (pv 0)) a0j) a0j (b0n _)))) (fun _ _ _ _=>(pv 0))) a0g)))),(b0o (b0t c0r (a0a (b0x (c0n (a0a a0m a0d)) (a0s rfl) (a0r (a0k g0g (a0k b0a (a0k d0n a0b a0b) a0m) a0m)) a0b) a0d)))⟩) ?_
 rintro ss q ⟨r,rfl,hr,hq⟩
 refine⟨rfl,rfl,?_⟩
 refine⟨⟨by decide,by decide⟩,by rw[c0e];decide,?_⟩
 refine d0b (fun j acc ρ=>acc=a0e ((List.range j).filter r.testBit)/\ρ=[nv r]) (fun _ _ _ _ _=>trivial) ?_ ?_ _ ⟨rfl,rfl⟩
 ·rintro j d acc _ M4 hj ⟨rfl,rfl⟩ hM4
  obtain⟨lt,rfl⟩:=f0i hj
  rw[Int.zero_add]
  have fs:=h0x r.testBit (List.range j) j
  rw[<- List.range_succ]at fs
  refine⟨Int.natCast_nonneg _,c0t rfl rfl (by simp[D.depth]) (v0c r j) ?_⟩
  cases e:r.testBit j with
  | false=>exact hM4 _ _ ⟨by rw[fs,e];rfl,rfl⟩
  | true=>exact hM4 _ _ ⟨by rw[fs,e];rfl,rfl⟩
 ·rintro acc _ ⟨rfl,rfl⟩
  rw[c0e]
  have e:(a0e ((List.range (Int.toNat 12)).filter r.testBit)).length=wt r:=by
   rw[a0h]
   show((List.range 12).filter r.testBit).length=_
   rw[k0h (show r<2^12 from hr)];rfl
  show q (.d (.int (((a0e ((List.range (Int.toNat 12)).filter r.testBit)).length:Nat):Int))) _
  rw[e]
  exact hq
theorem o0u (dn:DefN K mg "_law_wish" d0z ["_law_tape_here"])(B:BI mg)(g_law_draw:OkN P w K mg base 1 "_law_draw" ["_law_tape_here", "_law_many"] (spA K a1g)):OkN P w K mg base 2 "_law_wish" ["_law_tape_here"] (spA K v0g):=by
 refine dn.aok2 (k:=1) b0d (fun j=>j==0) [.un,.un,.un,.un,.un,.un,.un] v0g rfl (fun f cdv A outer s H E hr=>have hu:=f0n hr;⟨_,(a0f (a0z (i:=1) b0d.nd rfl (by first | exact Or.inl rfl | exact Or.inr rfl) (a0x e0a a0j (b0z g_law_draw (hr.mono (by decide)) (a0c (pv 0) (a0c a0j a0g)))))
  (a0f (a0z (i:=2) b0d.nd rfl (by first | exact Or.inl rfl | exact Or.inr rfl) (b0z g_law_draw (hr.mono (by decide)) (a0c (pv 0) (a0c a0j a0g))))
  (a0f (a0z (i:=3) b0d.nd rfl (by first | exact Or.inl rfl | exact Or.inr rfl) (a0x e0a a0j (b0z g_law_draw (hr.mono (by decide)) (a0c (pv 0) (a0c a0j a0g)))))
  (a0f (a0z (i:=4) b0d.nd rfl (by first | exact Or.inl rfl | exact Or.inr rfl) (f0o a0g))
  (a0f (i0i PassesOwn.never rfl (c0q rfl B.range_ (a0c (a0x e0a a0j (b0z g_law_draw (hr.mono (by decide)) (a0c (pv 0) (a0c a0j a0g)))) a0g)) (b0b (i:=5) b0d.nd rfl (by first | exact Or.inl rfl | exact Or.inr rfl))
  (a0f (a0z (i:=6) b0d.nd rfl (by first | exact Or.inl rfl | exact Or.inr rfl) (a0x e0a a0j (b0z g_law_draw (hr.mono (by decide)) (a0c (pv 0) (a0c (a0x h0i (a0x k0c a0j (pv 1)) a0j) a0g)))))
  (a0f (f0u (a0v (f0p K hr.units) (pv 2) a0j (b0n _))
  (a0q (a0z (i:=6) b0d.nd rfl (by first | exact Or.inl rfl | exact Or.inr rfl) (a0x c1d (a0x c1d (a0x k0c a0j (b0z g_law_draw (hr.mono (by decide)) (a0c (pv 0) (a0c (pv 1) a0g)))) (a0x k0c a0j (b0z g_law_draw (hr.mono (by decide)) (a0c (pv 0) (a0c (pv 1) a0g))))) (a0x k0c a0j (b0z g_law_draw (hr.mono (by decide)) (a0c (pv 0) (a0c (pv 1) a0g)))))))
  c0i)
  (a0f (f0u (a0v (f0p K hr.units) (pv 2) a0j (b0n _))
  (a0q (a0z (i:=6) b0d.nd rfl (by first | exact Or.inl rfl | exact Or.inr rfl) (a0x k0c a0j (b0z g_law_draw (hr.mono (by decide)) (a0c (pv 0) (a0c (pv 1) a0g))))))
  c0i)
  (a0f (f0u (a0v (f0p K hr.units) (pv 2) a0j (b0n _))
  (a0f (a0z (i:=7) b0d.nd rfl (by first | exact Or.inl rfl | exact Or.inr rfl) (b0z g_law_draw (hr.mono (by decide)) (a0c (pv 0) (a0c (pv 3) a0g))))
  (a0q (a0z (i:=6) b0d.nd rfl (by first | exact Or.inl rfl | exact Or.inr rfl) (a0w (n0v K rfl) rfl B.sum_ x0x (a0c (e0h ["_law_k"] [3,7,6] rfl (Blk.of (a0i d0z) i0o) (c0q rfl B.range_ (a0c (pv 1) a0g)) (fun _ _ _ _ nd=>(b0b (i:=0) nd rfl (by first | exact Or.inl rfl | exact Or.inr rfl))) (fun _ _ _ _=>(d0y (PW.pt (k0a (a0v (f0p K hr.units) (a0x h0j (pv 0) (pv 1)) (pv 2) (b0n _)) (g0x (a0v (f0p K hr.units) (a0x k0d (a0x q0h (pv 3) (pv 0)) a0j) a0j (b0n _))))))) (fun _ _ _ _=>(a0x k0c a0j (pv 0)))) a0g)))))
  c0i)
  (a0f (f0u (PW.pt (y0r (a0v (f0p K hr.units) (pv 6) a0j (b0n _)) (x0m (PW.pt (k0a (a0v (i0k K hr.units) (pv 4) (f0o a0g) (b0n _)) (g0x (a0v (f0p K hr.units) (b0z g_law_draw (hr.mono (by decide)) (a0c (pv 0) (a0c a0j a0g))) a0j (b0n _))))))))
  (a0q (a0z (i:=6) b0d.nd rfl (by first | exact Or.inl rfl | exact Or.inr rfl) (d0p (b0h K) (a0x (t0o K) (f0o (a0c a0j a0g)) (pv 4)) (a0x h0i (d1q a1z a0j) (b0z g_law_draw (hr.mono (by decide)) (a0c (pv 0) (a0c (a0x e0a a0j (a0w (b0j K) rfl B.len_ d0w (a0c (pv 4) a0g))) a0g)))) (fun _ _=>rfl))))
  c0i)
  (a0q (g0y (q0f K PySem.F.plainAttrs_list PySem.F.slot_list_append PySem.F.type_list_append g0j (pv 4) (a0c (pv 6) a0g))))))))))
  (a0q (b0w (g0f (a0c (pv 1) (a0c (m0p (p0o K) rfl B.tuple_ q0w (a0c (pv 4) a0g)) a0g)))))))))),(a0n (a0u (a0k b0a a0m (a0p (a0a a0b (a0a a0m a0d)))) rfl)
  (a0n (a0u (a0p (a0a a0b (a0a a0m a0d))) rfl)
  (a0n (a0u (a0k b0a a0m (a0p (a0a a0b (a0a a0m a0d)))) rfl)
  (a0n (a0u (d0x a0d) rfl)
  (a0n (f0t (pin:=(fun _=>false)) (c0n (a0a (a0k b0a a0m (a0p (a0a a0b (a0a a0m a0d)))) a0d)) (a0s rfl)
  (a0n (a0u (a0k b0a a0m (a0p (a0a a0b (a0a (a0k b0a (a0k d0n a0m a0b) a0m) a0d)))) rfl)
  (a0n (e0x (a0r (a0k g0g a0b a0m))
  (a0u (a0k b0a (a0k b0a (a0k d0n a0m (a0p (a0a a0b (a0a a0b a0d)))) (a0k d0n a0m (a0p (a0a a0b (a0a a0b a0d))))) (a0k d0n a0m (a0p (a0a a0b (a0a a0b a0d))))) rfl)
  c0o)
  (a0n (e0x (a0r (a0k g0g a0b a0m))
  (a0u (a0k d0n a0m (a0p (a0a a0b (a0a a0b a0d)))) rfl)
  c0o)
  (a0n (e0x (a0r (a0k g0g a0b a0m))
  (a0n (a0u (a0p (a0a a0b (a0a a0b a0d))) rfl)
  (a0u (b0t q0v (a0a (b0x (c0n (a0a a0b a0d)) (a0s rfl) (g0d (a0r (a0k g0g (a0k d0n a0b a0b) a0b)) (a0r (a0k g0g (a0k b0a (a0k d0n a0b a0b) a0m) a0m))) (a0k d0n a0m a0b)) a0d)) rfl))
  c0o)
  (a0n (e0x (o0h (a0r (a0k g0g a0b a0m)) (g0d (a0r (a0k i0l a0b (d0x a0d))) (a0r (a0k g0g (a0p (a0a a0b (a0a a0m a0d))) a0m))))
  (a0u (a0k d0t (a0k t0r (d0x (a0a a0m a0d)) a0b) (a0k b0a (y0j a0m) (a0p (a0a a0b (a0a (a0k b0a a0m (b0t c0r (a0a a0b a0d))) a0d))))) rfl)
  c0o)
  (h0t (k0v a0b (a0a a0b a0d)))))))))
  (b0o (e0d (a0a a0b (a0a (b0t r0v (a0a a0b a0d)) a0d)))))))))⟩) ?_
 rintro ss q ⟨n,rfl,hn,hq⟩
 refine⟨rfl,rfl,?_⟩
 refine cutS (fun ρ=>∃m:Nat,1<=m/\m<=12/\ρ=[.tp (n+1),nv m,.un,.un,.un,.un,.un,.un]) (fun M hM=>⟨rfl,n,12,rfl,by omega,Dv.small (by decide) (by decide),fun r hr=>hM _ ⟨1+r,by omega,by omega,by rw[<- r0m (show(1:Int)+(r:Int)=((1+r:Nat):Int)by omega)];rfl⟩⟩) ?_
 rintro _ ⟨m,m1,m2,rfl⟩
 have pm:2<=2^m/\2^m<=4096:=⟨Nat.pow_le_pow_right (n:=2) (by decide) m1,Nat.pow_le_pow_right (n:=2) (by decide) m2⟩
 have ep:(1:Int)*(2:Int)^((m:Int).toNat)=((2^m:Nat):Int):=by rw[s0x,Nat.shiftLeft_eq,Nat.one_mul]
 refine cutS (fun ρ=>∃way:Nat,ρ=[.tp (n+2),nv m,nv way,.un,.un,.un,.un,.un]) (fun M hM=>⟨rfl,n+1,4,rfl,by omega,Dv.small (by decide) (by decide),fun r hr=>hM _ ⟨r,rfl⟩⟩) ?_
 rintro _ ⟨way,rfl⟩
 refine cutS (fun ρ=>∃g:Nat,1<=g/\g<=4/\ρ=[.tp (n+3),nv m,nv way,nv g,.un,.un,.un,.un]) (fun M hM=>⟨rfl,n+2,4,rfl,by omega,Dv.small (by decide) (by decide),fun r hr=>hM _ ⟨1+r,by omega,by omega,by rw[<- r0m (show(1:Int)+(r:Int)=((1+r:Nat):Int)by omega)];rfl⟩⟩) ?_
 rintro _ ⟨g,g1,g2,rfl⟩
 refine cutS (fun ρ=>ρ=[.tp (n+3),nv m,nv way,nv g,.ow [],.un,.un,.un]) (fun M hM=>⟨by simp,hM _ rfl⟩) ?_
 rintro _ rfl
 have pw:∀x:Nat,(1:Int)*(2:Int)^((x:Int).toNat)=((2^x:Nat):Int):=fun x=>by rw[s0x,Nat.shiftLeft_eq,Nat.one_mul]
 refine cutS (fun ρ=>∃rows n' s5 s6 s7,w0v m rows/\n'<=n+300/\ρ=[.tp n',nv m,nv way,nv g,.ow (a0e rows),s5,s6,s7]) (fun M hM=>⟨rfl,n+3,24,rfl,by omega,Dv.small (by decide) (by decide),fun c hc=>⟨⟨by omega,by omega⟩,?_⟩⟩) ?_
 ·refine g0p (fun k ρ=>∃rows n' s5 s6 s7,(∀r∈rows,1<=r/\r<2^m)/\rows.length=k/\n'<=n+4+9*k/\ρ=[.tp n',nv m,nv way,nv g,.ow (a0e rows),s5,s6,s7]) (fun _ _ _=>trivial) ?_ ?_ ⟨[],n+4,.un,.un,.un,(fun r hr=>nomatch hr),rfl,by omega,rfl⟩
  ·rintro k _ M1 hk ⟨rows,n0,s5,s6,s7,hrows,hlen,hn0,rfl⟩ hM1
   have hk':k<25:=by omega
   refine cutS (fun ρ=>∃r:Nat,1<=r/\r<2^m/\ρ=[.tp (n0+1),nv m,nv way,nv g,.ow (a0e rows),.vl (.int (0+(k:Int))),nv r,s7]) (fun M2 hM2=>⟨⟨by omega,by omega,by decide⟩,rfl,n0,(1:Int)*2^((m:Int).toNat) - 1,rfl,by omega,by rw[ep];exact Dv.small (by omega) (by omega),fun r hr=>?_⟩) ?_
   ·rw[ep]at hr
    exact hM2 _ ⟨1+r,by omega,by omega,by rw[<- r0m (show(1:Int)+(r:Int)=((1+r:Nat):Int)by omega)];rfl⟩
   rintro _ ⟨r,hr1,hr2,rfl⟩
   refine cutS (fun ρ=>∃r n1:Nat,1<=r/\r<2^m/\n1<=n0+4/\ρ=[.tp n1,nv m,nv way,nv g,.ow (a0e rows),.vl (.int (0+(k:Int))),nv r,s7]) (fun M2 hM2=>c0t rfl rfl (by simp[D.depth]) rfl (ite2 (fun _=>?_) fun _=>hM2 _ ⟨r,n0+1,hr1,hr2,by omega,rfl⟩)) ?_
   ·refine⟨rfl,n0+1,m,rfl,by omega,Dv.small (by omega) (by omega),fun x hx=>⟨⟨by omega,by omega,by decide⟩,?_⟩⟩
    refine⟨rfl,n0+2,m,rfl,by omega,Dv.small (by omega) (by omega),fun y hy=>⟨⟨by omega,by omega,by decide⟩,?_⟩⟩
    refine⟨rfl,n0+3,m,rfl,by omega,Dv.small (by omega) (by omega),fun z hz=>⟨⟨by omega,by omega,by decide⟩,hM2 _ ⟨(2^x ||| 2^y) ||| 2^z,n0+4,?_,?_,by omega,?_⟩⟩⟩
    ·refine Nat.pos_of_ne_zero fun e=>?_
     have:=congrArg (fun t=>t.testBit z) e
     simp only[Nat.testBit_or,Nat.zero_testBit,Nat.testBit_two_pow_self,Bool.or_true]at this
     cases this
    ·exact Nat.or_lt_two_pow (Nat.or_lt_two_pow (Nat.pow_lt_pow_right (by decide) (by omega)) (Nat.pow_lt_pow_right (by decide) (by omega))) (Nat.pow_lt_pow_right (by decide) (by omega))
    ·have e:Builtin.bitOr (Builtin.bitOr ((1:Int)*(2:Int)^((x:Int).toNat)) ((1:Int)*(2:Int)^((y:Int).toNat))) ((1:Int)*(2:Int)^((z:Int).toNat))=(((2^x ||| 2^y) ||| 2^z:Nat):Int):=by rw[pw,pw,pw,t0i,t0i]
     rw[<- r0m e];rfl
   rintro _ ⟨r,n1,hr1,hr2,hn1,rfl⟩
   refine cutS (fun ρ=>∃r n2:Nat,1<=r/\r<2^m/\n2<=n1+1/\ρ=[.tp n2,nv m,nv way,nv g,.ow (a0e rows),.vl (.int (0+(k:Int))),nv r,s7]) (fun M2 hM2=>c0t rfl rfl (by simp[D.depth]) rfl (ite2 (fun _=>?_) fun _=>hM2 _ ⟨r,n1,hr1,hr2,by omega,rfl⟩)) ?_
   ·refine⟨rfl,n1,m,rfl,by omega,Dv.small (by omega) (by omega),fun x hx=>⟨⟨by omega,by omega,by decide⟩,hM2 _ ⟨2^x,n1+1,Nat.pos_of_ne_zero (by simp),Nat.pow_lt_pow_right (by decide) (by omega),by omega,?_⟩⟩⟩
    rw[<- r0m (pw x)];rfl
   rintro _ ⟨r,n2,hr1,hr2,hn2,rfl⟩
   refine cutS (fun ρ=>∃(r n3:Nat) (s7:Sv),r<2^m/\n3<=n2+1/\ρ=[.tp n3,nv m,nv way,nv g,.ow (a0e rows),.vl (.int (0+(k:Int))),nv r,s7]) (fun M2 hM2=>c0t rfl rfl (by simp[D.depth]) rfl (ite2 (fun _=>?_) fun _=>hM2 _ ⟨r,n2,s7,hr2,by omega,rfl⟩)) ?_
   ·refine⟨rfl,n2,g,rfl,by omega,Dv.small (by omega) (by omega),fun y hy=>?_⟩
    refine⟨⟨by omega,by omega⟩,by rw[c0e];omega,?_⟩
    rw[Int.toNat_natCast]
    refine d0b (fun j acc ρ=>acc=(((List.range j).filter fun k=>decide (k % g=y)&&r.testBit k).map fun k=>((2^k:Nat):Int)).map D.int/\ρ=[.tp (n2+1),nv m,nv way,nv g,.ow (a0e rows),.vl (.int (0+(k:Int))),nv r,nv y]) (fun _ _ _ _ _=>trivial) ?_ ?_ _ ⟨rfl,rfl⟩
    ·rintro j d acc _ M4 hj ⟨rfl,rfl⟩ hM4
     obtain⟨lt,rfl⟩:=f0i hj
     rw[Int.zero_add]
     refine⟨by omega,c0t (b:=decide (j % g=y)) rfl rfl (by simp[D.depth]) ?_ ?_⟩
     ·show eqD (.int ((j:Int) % (g:Int))) (.int (y:Int))=_
      rw[<- Int.natCast_emod]
      unfold eqD
      rw[Bool.eq_iff_iff]
      simp only[beq_iff_eq,decide_eq_true_eq]
      omega
     have rs:∀b:Bool,(decide (j % g=y)&&r.testBit j)=b->((((List.range (j+1)).filter fun k=>decide (k % g=y)&&r.testBit k).map fun k=>((2^k:Nat):Int)).map D.int)=((((List.range j).filter fun k=>decide (k % g=y)&&r.testBit k).map fun k=>((2^k:Nat):Int)).map D.int)++(if b=true then[D.int ((2^j:Nat):Int)]else[]):=fun b hb=>by
      rw[List.range_succ,List.filter_append,List.map_append,List.map_append]
      congr 1
      cases b <;> simp[List.filter_cons,hb]
     cases h1:decide (j % g=y)with
     | false=>exact hM4 _ _ ⟨by rw[rs false (by rw[h1];rfl)];simp,rfl⟩
     | true =>
      refine⟨Int.natCast_nonneg _,c0t rfl rfl (by simp[D.depth]) (v0c r j) ?_⟩
      cases h2:r.testBit j with
      | false=>exact hM4 _ _ ⟨by rw[rs false (by rw[h1,h2];rfl)];simp,rfl⟩
      | true =>
       refine⟨⟨by omega,by omega,by decide⟩,hM4 _ _ ⟨?_,rfl⟩⟩
       rw[rs true (by rw[h1,h2];rfl),if_pos rfl,<- pw j]
    ·rintro acc _ ⟨rfl,rfl⟩
     rw[c0e]
     have ps:=t0f (fun k=>decide (k % g=y)&&r.testBit k) m
     refine u0j (ns:=((List.range m).filter fun k=>decide (k % g=y)&&r.testBit k).map fun k=>((2^k:Nat):Int)) rfl (fun z hz=>?_) ?_ (hM2 _ ⟨(((List.range m).filter fun k=>decide (k % g=y)&&r.testBit k).map fun k=>2^k).sum,n2+1,nv y,ps,by omega,?_⟩)
     ·obtain⟨t,_,rfl⟩:=List.mem_map.mp hz
      exact Int.natCast_nonneg _
     ·rw[csum];omega
     ·rw[csum];rfl
   rintro _ ⟨r,n3,s7,hr2,hn3,rfl⟩
   refine cutS (fun ρ=>∃(r n4:Nat),1<=r/\r<2^m/\n4<=n3+2/\ρ=[.tp n4,nv m,nv way,nv g,.ow (a0e rows),.vl (.int (0+(k:Int))),nv r,s7]) (fun M2 hM2=>?_) ?_
   ·by_cases h0:r=0
    ·refine gE0 (c:=true) (by subst h0;rfl) ?_
     refine⟨by simp,by rw[a0h];simp;omega,?_⟩
     refine⟨rfl,n3,_,rfl,by omega,Dv.small (by rw[a0h];omega) (by rw[a0h];omega),fun x hx=>?_⟩
     rw[a0h]at hx
     have hx':x<(1::rows).length:=by rw[List.length_cons];omega
     refine c1z (ds:=a0e (1::rows)) (d:=nD ((1::rows).getD ((1::rows).length - 1 - x) 0)) rfl (q0z hx') ?_
     have hmem:(1::rows).getD ((1::rows).length - 1 - x) 0∈1::rows:=by
      rw[List.getD_eq_getElem?_getD,List.getElem?_eq_getElem (by omega)]
      exact List.getElem_mem (by omega)
     refine hM2 _ ⟨(1::rows).getD ((1::rows).length - 1 - x) 0,_,?_,?_,?_,rfl⟩
     ·rcases List.mem_cons.mp hmem with e | e
      ·rw[e];exact Nat.le_refl _
      ·exact(hrows _ e).1
     ·rcases List.mem_cons.mp hmem with e | e
      ·rw[e];omega
      ·exact(hrows _ e).2
     ·omega
    ·refine gE0 (c:=false) (decide_eq_false (by omega)) ?_
     refine⟨by simp,c0t (b:=decide (rows=[])) rfl rfl (b0q _) (by cases rows <;> rfl) ?_⟩
     by_cases h2:rows=[]
     ·rw[decide_eq_true h2]
      exact hM2 _ ⟨r,n3,by omega,hr2,by omega,rfl⟩
     ·rw[decide_eq_false h2]
      refine⟨rfl,n3,6,rfl,by omega,Dv.small (by decide) (by decide),fun t ht=>?_⟩
      by_cases h3:t=0
      ·refine gE0 (c:=true) (by subst h3;rfl) ?_
       refine⟨by simp,by rw[a0h];simp;omega,?_⟩
       refine⟨rfl,n3+1,_,rfl,by omega,Dv.small (by rw[a0h];omega) (by rw[a0h];omega),fun x hx=>?_⟩
       rw[a0h]at hx
       have hx':x<(1::rows).length:=by rw[List.length_cons];omega
       refine c1z (ds:=a0e (1::rows)) (d:=nD ((1::rows).getD ((1::rows).length - 1 - x) 0)) rfl (q0z hx') ?_
       have hmem:(1::rows).getD ((1::rows).length - 1 - x) 0∈1::rows:=by
        rw[List.getD_eq_getElem?_getD,List.getElem?_eq_getElem (by omega)]
        exact List.getElem_mem (by omega)
       refine hM2 _ ⟨(1::rows).getD ((1::rows).length - 1 - x) 0,_,?_,?_,?_,rfl⟩
       ·rcases List.mem_cons.mp hmem with e | e
        ·rw[e];exact Nat.le_refl _
        ·exact(hrows _ e).1
       ·rcases List.mem_cons.mp hmem with e | e
        ·rw[e];omega
        ·exact(hrows _ e).2
       ·omega
      ·refine gE0 (c:=false) (decide_eq_false (by omega)) ?_
       exact hM2 _ ⟨r,n3+1,by omega,hr2,by omega,rfl⟩
   rintro _ ⟨r,n4,hr1,hr2,hn4,rfl⟩
   refine⟨by rw[a0h];omega,hM1 _ ⟨rows++[r],n4,_,_,_,fun x hx=>?_,by rw[List.length_append,hlen];rfl,by omega,by rw[f0l];rfl⟩⟩
   rcases List.mem_append.mp hx with hx | hx
   ·exact hrows x hx
   ·rw[List.mem_singleton.mp hx];exact⟨hr1,hr2⟩
  ·rintro _ ⟨rows,n',s5,s6,s7,hrows,hlen,hn',rfl⟩
   exact hM _ ⟨rows,n',s5,s6,s7,⟨m1,m2,⟨by omega,by omega,fun r hr=>⟨(hrows r hr).1,by have:=(hrows r hr).2;omega⟩⟩,fun r hr=>(hrows r hr).2⟩,by omega,rfl⟩
 rintro _ ⟨rows,n',s5,s6,s7,hR,hn',rfl⟩
 exact⟨by simp,hq m rows n' hR hn'⟩
theorem m0t (dn:DefN K mg "_law_wider" d0k ["_law_rows", "_law_places"])(B:BI mg):OkN P w K mg base 1 "_law_wider" ["_law_rows", "_law_places"] (spA K v0f):=by
 refine dn.aok2 (k:=0) d0q (fun j=>j==0||j==1) [.un,.un,.un] v0f rfl (fun f cdv A outer s H E hr=>have hu:=f0n hr;⟨_,(a0f (a0z (i:=2) d0q.nd rfl (by first | exact Or.inl rfl | exact Or.inr rfl) (m0p (r0w K) rfl B.list_ z0z (a0c (pv 1) a0g)))
  (a0f (i0i PassesOwn.never rfl (c0q rfl B.range_ (a0c (a0w (b0j K) rfl B.len_ d0w (a0c (pv 0) a0g)) a0g)) (b0b (i:=3) d0q.nd rfl (by first | exact Or.inl rfl | exact Or.inr rfl))
  (a0f (o0m (i:=4) ["_law_one"] [0,3] d0q.nd rfl (by first | exact Or.inl rfl | exact Or.inr rfl) rfl (Blk.of (a0i d0k) h0k) (d0m K (pv 1)) (fun _ _ _ _ nd=>(b0b (i:=0) nd rfl (by first | exact Or.inl rfl | exact Or.inr rfl))) (fun _ _ _ _=>(d0y (a0v (i0k K hr.units) (a0x k0d (d0p (b0h K) (pv 1) (pv 0) (fun _ _=>rfl)) (d0p (b0h K) (pv 1) (pv 2) (fun _ _=>rfl))) a0j (b0n _)))) (fun _ _ _ _=>(pv 0)))
  (a0q (f0u (PW.pt (k0a (a0v (e0j K) (pv 3) (pv 1) rfl) (g0x (a0v (i0k K hr.units) (pv 4) (f0o a0g) (b0n _)))))
  (a0q (g0y (q0f K PySem.F.plainAttrs_list PySem.F.slot_list_append PySem.F.type_list_append g0j (pv 2) (a0c (pv 3) a0g))))
  c0i))))
  (a0q (b0w (a0w (j0f K) rfl B.sorted_ j0h (a0c (pv 2) a0g)))))),(a0n (a0u (b0t u0z (a0a a0b a0d)) rfl)
  (a0n (f0t (pin:=(fun _=>false)) (c0n (a0a (b0t c0r (a0a a0b a0d)) a0d)) (a0s rfl)
  (a0n (k0y (b0x (c0m a0b) (a0s rfl) (a0r (a0k i0l (a0k b0a (a0k d0t a0b a0b) (a0k d0t a0b a0b)) a0m)) a0b) rfl)
  (e0x (g0d (a0r (a0k (t0q true) a0b a0b)) (a0r (a0k i0l a0b (d0x a0d))))
  (h0t (k0v a0b (a0a a0b a0d)))
  c0o)))
  (b0o (b0t j0e (a0a a0b a0d)))))⟩) ?_
 rintro ss q ⟨rows,C,s1,hs,rfl,hR,hC,hb,hq⟩
 have l24:=hR.l24
 have cl:=g0h hC hb
 rcases hs with rfl | rfl
 ·refine⟨rfl,rfl,?_⟩
  refine cutS (fun ρ=>ρ=[.vl (.tup (a0e rows)),.ow (a0e C),.ow (a0e C),.un,.un]) (fun M hM=>hM _ rfl) ?_
  rintro _ rfl
  refine cutS (fun ρ=>∃F s3 s4,F.Nodup/\(∀x,x∈F↔x∈wid rows C)/\F.length<=48/\ρ=[.vl (.tup (a0e rows)),.ow (a0e C),.ow (a0e F),s3,s4]) (fun M hM=>⟨⟨by omega,by rw[a0h];omega⟩,?_⟩) ?_
  ·rw[a0h,Int.toNat_natCast]
   refine g0p (fun k ρ=>∃F s3 s4,F.Nodup/\(∀x,x∈F↔x∈C∨(x<k/\∃i∈C,adj rows i x))/\F.length<=24+k/\ρ=[.vl (.tup (a0e rows)),.ow (a0e C),.ow (a0e F),s3,s4]) (fun _ _ _=>trivial) ?_ ?_ ⟨C,.un,.un,hC.imp fun h=>by omega,fun x=>⟨.inl,fun h=>h.resolve_right fun z=>by omega⟩,by omega,rfl⟩
   ·rintro k _ M2 hk ⟨F,s3,s4,nd,hm,hfl,rfl⟩ hM2
    rw[Int.zero_add]
    refine cutS (fun ρ=>ρ=[.vl (.tup (a0e rows)),.ow (a0e C),.ow (a0e F),nv k,.ow (a0e (C.filter fun i=>rw1 rows i &&& rw1 rows k != 0))]) (fun M3 hM3=>⟨rfl,by rw[a0h];omega,?_⟩) ?_
    ·refine f0c nD (fun i=>rw1 rows i &&& rw1 rows k != 0) nD rfl (fun i acc M4 hi hM4=>?_) (hM3 _ rfl)
     refine g0a (i:=i) (ds:=a0e rows) (d:=nD (rw1 rows i)) rfl (by rw[show rw1 rows i=rows.getD i 0 from rfl];exact e0s (hb i hi)) ?_
     refine g0a (i:=k) (ds:=a0e rows) (d:=nD (rw1 rows k)) rfl (by rw[show rw1 rows k=rows.getD k 0 from rfl];exact e0s hk) ?_
     refine c0t (b:=!(rw1 rows i &&& rw1 rows k != 0)) rfl rfl (by simp[D.depth]) ?_ ?_
     ·show eqD (.int (Builtin.bitAnd ((rw1 rows i:Nat):Int) ((rw1 rows k:Nat):Int))) (.int 0)=_
      rw[m0c]
      unfold eqD
      rw[Bool.eq_iff_iff]
      simp
     ·cases hh:(rw1 rows i &&& rw1 rows k != 0)with
      | true=>rw[hh]at hM4;exact hM4
      | false=>rw[hh]at hM4;exact hM4
    rintro _ rfl
    have mt:((C.filter fun i=>rw1 rows i &&& rw1 rows k != 0)=[])↔¬ ∃i∈C,adj rows i k:=by
     rw[List.filter_eq_nil_iff]
     unfold adj
     constructor
     ·rintro h ⟨i,hi,a⟩
      exact h i hi (by simpa using a)
     ·intro h i hi z
      exact h ⟨i,hi,by simpa using z⟩
    refine x0s (xs:=C) rfl ?_
    cases hc:C.contains k with
    | true =>
     have hc':k∈C:=List.contains_iff_mem.mp hc
     refine hM2 _ ⟨F,nv k,.ow (a0e (C.filter fun i=>rw1 rows i &&& rw1 rows k != 0)),nd,fun x=>?_,by omega,rfl⟩
     rw[hm x]
     constructor
     ·rintro(h | ⟨h1,h2⟩)
      ·exact .inl h
      ·exact .inr ⟨by omega,h2⟩
     ·rintro(h | ⟨h1,h2⟩)
      ·exact .inl h
      ·rcases Nat.lt_or_ge x k with z | z
       ·exact .inr ⟨z,h2⟩
       ·have:x=k:=by omega
        subst this;exact .inl hc'
    | false =>
     have hc':k∉C:=fun z=>by rw[List.contains_iff_mem.mpr z]at hc;cases hc
     generalize hML:(C.filter fun i=>rw1 rows i &&& rw1 rows k != 0)=ML at mt
     refine⟨by simp,c0t (b:=decide (ML=[])) rfl rfl (b0q _) ?_ ?_⟩
     ·cases ML <;> rfl
     by_cases e:ML=[]
     ·rw[decide_eq_true e]
      refine hM2 _ ⟨F,nv k,.ow (a0e ML),nd,fun x=>?_,by omega,rfl⟩
      rw[hm x]
      constructor
      ·rintro(h | ⟨h1,h2⟩)
       ·exact .inl h
       ·exact .inr ⟨by omega,h2⟩
      ·rintro(h | ⟨h1,h2⟩)
       ·exact .inl h
       ·rcases Nat.lt_or_ge x k with z | z
        ·exact .inr ⟨z,h2⟩
        ·have:x=k:=by omega
         subst this;exact absurd h2 (mt.mp e)
     ·rw[decide_eq_false e]
      have ha:∃i∈C,adj rows i k:=by
       apply Classical.byContradiction
       intro z
       exact e (mt.mpr z)
      refine⟨by rw[a0h];omega,hM2 _ ⟨F++[k],nv k,.ow (a0e ML),?_,fun x=>?_,by rw[List.length_append,List.length_singleton];omega,by rw[f0l];rfl⟩⟩
      ·refine List.nodup_append.mpr ⟨nd,List.nodup_cons.mpr ⟨(fun h=>nomatch h),List.nodup_nil⟩,fun a h1 b h2 e=>?_⟩
       rw[List.mem_singleton.mp h2]at e
       subst e
       rcases(hm a).mp h1 with z | z
       ·exact hc' z
       ·omega
      ·rw[List.mem_append,hm x,List.mem_singleton]
       constructor
       ·rintro((h | ⟨h1,h2⟩) | rfl)
        ·exact .inl h
        ·exact .inr ⟨by omega,h2⟩
        ·exact .inr ⟨by omega,ha⟩
       ·rintro(h | ⟨h1,h2⟩)
        ·exact .inl (.inl h)
        ·rcases Nat.lt_or_ge x k with z | z
         ·exact .inl (.inr ⟨z,h2⟩)
         ·exact .inr (by omega)
   ·rintro _ ⟨F,s3,s4,nd,hm,hfl,rfl⟩
    refine hM _ ⟨F,s3,s4,nd,fun x=>?_,by omega,rfl⟩
    rw[hm x,e0w]
    constructor
    ·rintro(h | ⟨h1,h2⟩)
     ·exact⟨hb x h,.inl h⟩
     ·exact⟨h1,.inr h2⟩
    ·rintro⟨h1,h2 | h2⟩
     ·exact .inl h2
     ·exact .inr ⟨h1,h2⟩
  rintro _ ⟨F,s3,s4,nd,hm,hfl,rfl⟩
  refine h0b (ns:=castL F) (by rw[g0u];rfl) (by unfold castL;rw[List.length_map];omega) fun ns' pm up=>?_
  have:=p0x pm up nd (i0a rows C) hm
  subst this
  rw[g0u]
  exact hq
 ·refine⟨rfl,rfl,?_⟩
  refine cutS (fun ρ=>ρ=[.vl (.tup (a0e rows)),.vl (lstN C),.ow (a0e C),.un,.un]) (fun M hM=>hM _ rfl) ?_
  rintro _ rfl
  refine cutS (fun ρ=>∃F s3 s4,F.Nodup/\(∀x,x∈F↔x∈wid rows C)/\F.length<=48/\ρ=[.vl (.tup (a0e rows)),.vl (lstN C),.ow (a0e F),s3,s4]) (fun M hM=>⟨⟨by omega,by rw[a0h];omega⟩,?_⟩) ?_
  ·rw[a0h,Int.toNat_natCast]
   refine g0p (fun k ρ=>∃F s3 s4,F.Nodup/\(∀x,x∈F↔x∈C∨(x<k/\∃i∈C,adj rows i x))/\F.length<=24+k/\ρ=[.vl (.tup (a0e rows)),.vl (lstN C),.ow (a0e F),s3,s4]) (fun _ _ _=>trivial) ?_ ?_ ⟨C,.un,.un,hC.imp fun h=>by omega,fun x=>⟨.inl,fun h=>h.resolve_right fun z=>by omega⟩,by omega,rfl⟩
   ·rintro k _ M2 hk ⟨F,s3,s4,nd,hm,hfl,rfl⟩ hM2
    rw[Int.zero_add]
    refine cutS (fun ρ=>ρ=[.vl (.tup (a0e rows)),.vl (lstN C),.ow (a0e F),nv k,.ow (a0e (C.filter fun i=>rw1 rows i &&& rw1 rows k != 0))]) (fun M3 hM3=>⟨by rw[a0h];omega,?_⟩) ?_
    ·refine f0c nD (fun i=>rw1 rows i &&& rw1 rows k != 0) nD trivial (fun i acc M4 hi hM4=>?_) (hM3 _ rfl)
     refine g0a (i:=i) (ds:=a0e rows) (d:=nD (rw1 rows i)) rfl (by rw[show rw1 rows i=rows.getD i 0 from rfl];exact e0s (hb i hi)) ?_
     refine g0a (i:=k) (ds:=a0e rows) (d:=nD (rw1 rows k)) rfl (by rw[show rw1 rows k=rows.getD k 0 from rfl];exact e0s hk) ?_
     refine c0t (b:=!(rw1 rows i &&& rw1 rows k != 0)) rfl rfl (by simp[D.depth]) ?_ ?_
     ·show eqD (.int (Builtin.bitAnd ((rw1 rows i:Nat):Int) ((rw1 rows k:Nat):Int))) (.int 0)=_
      rw[m0c]
      unfold eqD
      rw[Bool.eq_iff_iff]
      simp
     ·cases hh:(rw1 rows i &&& rw1 rows k != 0)with
      | true=>rw[hh]at hM4;exact hM4
      | false=>rw[hh]at hM4;exact hM4
    rintro _ rfl
    have mt:((C.filter fun i=>rw1 rows i &&& rw1 rows k != 0)=[])↔¬ ∃i∈C,adj rows i k:=by
     rw[List.filter_eq_nil_iff]
     unfold adj
     constructor
     ·rintro h ⟨i,hi,a⟩
      exact h i hi (by simpa using a)
     ·intro h i hi z
      exact h ⟨i,hi,by simpa using z⟩
    refine x0s (xs:=C) rfl ?_
    cases hc:C.contains k with
    | true =>
     have hc':k∈C:=List.contains_iff_mem.mp hc
     refine hM2 _ ⟨F,nv k,.ow (a0e (C.filter fun i=>rw1 rows i &&& rw1 rows k != 0)),nd,fun x=>?_,by omega,rfl⟩
     rw[hm x]
     constructor
     ·rintro(h | ⟨h1,h2⟩)
      ·exact .inl h
      ·exact .inr ⟨by omega,h2⟩
     ·rintro(h | ⟨h1,h2⟩)
      ·exact .inl h
      ·rcases Nat.lt_or_ge x k with z | z
       ·exact .inr ⟨z,h2⟩
       ·have:x=k:=by omega
        subst this;exact .inl hc'
    | false =>
     have hc':k∉C:=fun z=>by rw[List.contains_iff_mem.mpr z]at hc;cases hc
     generalize hML:(C.filter fun i=>rw1 rows i &&& rw1 rows k != 0)=ML at mt
     refine⟨by simp,c0t (b:=decide (ML=[])) rfl rfl (b0q _) ?_ ?_⟩
     ·cases ML <;> rfl
     by_cases e:ML=[]
     ·rw[decide_eq_true e]
      refine hM2 _ ⟨F,nv k,.ow (a0e ML),nd,fun x=>?_,by omega,rfl⟩
      rw[hm x]
      constructor
      ·rintro(h | ⟨h1,h2⟩)
       ·exact .inl h
       ·exact .inr ⟨by omega,h2⟩
      ·rintro(h | ⟨h1,h2⟩)
       ·exact .inl h
       ·rcases Nat.lt_or_ge x k with z | z
        ·exact .inr ⟨z,h2⟩
        ·have:x=k:=by omega
         subst this;exact absurd h2 (mt.mp e)
     ·rw[decide_eq_false e]
      have ha:∃i∈C,adj rows i k:=by
       apply Classical.byContradiction
       intro z
       exact e (mt.mpr z)
      refine⟨by rw[a0h];omega,hM2 _ ⟨F++[k],nv k,.ow (a0e ML),?_,fun x=>?_,by rw[List.length_append,List.length_singleton];omega,by rw[f0l];rfl⟩⟩
      ·refine List.nodup_append.mpr ⟨nd,List.nodup_cons.mpr ⟨(fun h=>nomatch h),List.nodup_nil⟩,fun a h1 b h2 e=>?_⟩
       rw[List.mem_singleton.mp h2]at e
       subst e
       rcases(hm a).mp h1 with z | z
       ·exact hc' z
       ·omega
      ·rw[List.mem_append,hm x,List.mem_singleton]
       constructor
       ·rintro((h | ⟨h1,h2⟩) | rfl)
        ·exact .inl h
        ·exact .inr ⟨by omega,h2⟩
        ·exact .inr ⟨by omega,ha⟩
       ·rintro(h | ⟨h1,h2⟩)
        ·exact .inl (.inl h)
        ·rcases Nat.lt_or_ge x k with z | z
         ·exact .inl (.inr ⟨z,h2⟩)
         ·exact .inr (by omega)
   ·rintro _ ⟨F,s3,s4,nd,hm,hfl,rfl⟩
    refine hM _ ⟨F,s3,s4,nd,fun x=>?_,by omega,rfl⟩
    rw[hm x,e0w]
    constructor
    ·rintro(h | ⟨h1,h2⟩)
     ·exact⟨hb x h,.inl h⟩
     ·exact⟨h1,.inr h2⟩
    ·rintro⟨h1,h2 | h2⟩
     ·exact .inl h2
     ·exact .inr ⟨h1,h2⟩
  rintro _ ⟨F,s3,s4,nd,hm,hfl,rfl⟩
  refine h0b (ns:=castL F) (by rw[g0u];rfl) (by unfold castL;rw[List.length_map];omega) fun ns' pm up=>?_
  have:=p0x pm up nd (i0a rows C) hm
  subst this
  rw[g0u]
  exact hq
end
theorem o0g {rows C:List Nat}(hb:∀i∈C,i<rows.length){x:Nat}(h:x∈C):x∈wid rows C:=e0w.mpr ⟨hb x h,.inl h⟩
theorem y0e (rows C:List Nat):(wid rows C).length<=rows.length:=g0h (i0a rows C) fun x hx=>(e0w.mp hx).1
theorem y0f {rows C:List Nat}{p:Nat}(up:C.Pairwise (· < ·))(hp:p∈C)(hs:∀j∈C,Conn rows p j)(hl:(wid rows C).length<=C.length):C=comp rows p:=by
 have hb:∀i∈C,i<rows.length:=fun i hi=>(hs i hi).lt.2
 refine p0j up hp hs fun i hi j hj a=>?_
 have hw:j∈wid rows C:=e0w.mpr ⟨hj,.inr ⟨i,hi,a⟩⟩
 apply Classical.byContradiction
 intro z
 have:=List.Nodup.length_le_of_subset (l₁:=j::C) (List.nodup_cons.mpr ⟨z,up.imp fun h=>by omega⟩) (l₂:=wid rows C) fun x hx=>by
  rcases List.mem_cons.mp hx with rfl | h
  ·exact hw
  ·exact o0g hb h
 rw[List.length_cons]at this
 omega
theorem s0a {rows C:List Nat}{p:Nat}(hs:∀j∈C,Conn rows p j){x:Nat}(h:x∈wid rows C):Conn rows p x:=by
 obtain⟨h1,h2 | ⟨i,hi,a⟩⟩:=e0w.mp h
 ·exact hs x h2
 ·exact(hs i hi).step h1 a
theorem t0l {rows:List Nat}{k:Nat}:∀(C:List Nat) (a:Nat),(C.foldl (fun a i=>a ||| rw1 rows i) a).testBit k=(a.testBit k||C.any fun i=>(rw1 rows i).testBit k)
 | [],a=>by simp
 | i::C,a=>by
  rw[List.foldl_cons,t0l C,Nat.testBit_or,List.any_cons,Bool.or_assoc]
theorem t0j {rows:List Nat}{m:Nat}(h:∀r∈rows,r<2^m):∀(C:List Nat) (a:Nat),(∀i∈C,i<rows.length)->a<2^m->C.foldl (fun a i=>a ||| rw1 rows i) a<2^m
 | [],a,_,ha=>ha
 | i::C,a,hC,ha=>by
  rw[List.foldl_cons]
  refine t0j h C _ (fun j hj=>hC j (List.mem_cons_of_mem _ hj)) (Nat.or_lt_two_pow ha (h _ ?_))
  have hi:=hC i (List.mem_cons_self ..)
  unfold rw1
  rw[List.getD_eq_getElem?_getD,List.getElem?_eq_getElem hi];exact List.getElem_mem hi
theorem m0y:∀xs:List Nat,noLs (a0e xs)=true
 | []=>rfl
 | x::xs=>by
  show(noL (nD x)&&noLs (a0e xs))=true
  rw[m0y xs];rfl
theorem r0s (L:List (List Nat)):depths (L.map lstN)<=3:=by
 induction L with
 | nil=>simp[depths]
 | cons C L ih =>
  have h:=b0q C
  have h2:(lstN C).depth<=2:=by
   unfold lstN
   have:=h0c C
   simp only[D.depth]
   omega
  simp only[List.map_cons,depths]
  omega
def j0k:ASp:=fun ss q=>∃rows:List Nat,ss=[.vl (.tup (a0e rows))]/\e0v rows/\q (.f ((a0l rows rows.length).map lstN)) [.vl (.tup (a0e rows))]
def a1e:ASp:=fun ss q=>∃(m:Nat) (rows:List Nat),ss=[.vl (c0u m rows)]/\w0v m rows/\q (.d (bndD rows)) [.vl (c0u m rows)]
section
variable {P:Program}{w:World}{K:PySem.W.Frag}{mg:Str->Option Value}{base:Heap}
theorem j0m (dn:DefN K mg "_law_classes" d0g ["_law_rows"])(B:BI mg)(g_law_wider:OkN P w K mg base 1 "_law_wider" ["_law_rows", "_law_places"] (spA K v0f)):OkN P w K mg base 2 "_law_classes" ["_law_rows"] (spA K j0k):=by
 refine dn.aok2 (k:=1) b0k (fun j=>j==0) [.un,.un,.un,.un] j0k rfl (fun f cdv A outer s H E hr=>have hu:=f0n hr;⟨_,(a0f (a0z (i:=1) b0k.nd rfl (by first | exact Or.inl rfl | exact Or.inr rfl) (f0o a0g))
  (a0f (i0i PassesOwn.never rfl (c0q rfl B.range_ (a0c (a0w (b0j K) rfl B.len_ d0w (a0c (pv 0) a0g)) a0g)) (b0b (i:=2) b0k.nd rfl (by first | exact Or.inl rfl | exact Or.inr rfl))
  (a0f (a0z (i:=3) b0k.nd rfl (by first | exact Or.inl rfl | exact Or.inr rfl) (f0o (a0c (pv 2) a0g)))
  (a0f (a0z (i:=4) b0k.nd rfl (by first | exact Or.inl rfl | exact Or.inr rfl) (b0z g_law_wider (hr.mono (by decide)) (a0c (pv 0) (a0c (pv 3) a0g))))
  (a0f (v0z PassesOwn.never (a0v t0n (a0w (b0j K) rfl B.len_ d0w (a0c (pv 4) a0g)) (a0w (b0j K) rfl B.len_ d0w (a0c (pv 3) a0g)) (b0n _))
  (a0f (a0z (i:=3) b0k.nd rfl (by first | exact Or.inl rfl | exact Or.inr rfl) (pv 4))
  (a0q (a0z (i:=4) b0k.nd rfl (by first | exact Or.inl rfl | exact Or.inr rfl) (b0z g_law_wider (hr.mono (by decide)) (a0c (pv 0) (a0c (pv 3) a0g)))))))
  (a0q (f0u (a0v (m0r K hr.units) (pv 3) (pv 1) rfl)
  (a0q (g0y (q0f K PySem.F.plainAttrs_list PySem.F.slot_list_append PySem.F.type_list_append g0j (pv 1) (a0c (pv 3) a0g))))
  c0i))))))
  (a0q (b0w (pv 1))))),(a0n (a0u (d0x a0d) rfl)
  (a0n (f0t (pin:=(fun _=>false)) (c0n (a0a (b0t c0r (a0a a0b a0d)) a0d)) (a0s rfl)
  (a0n (a0u (d0x (a0a a0b a0d)) rfl)
  (a0n (a0u (a0p (a0a a0b (a0a a0b a0d))) rfl)
  (a0n (s0u (a0r (a0k i0m (b0t c0r (a0a a0b a0d)) (b0t c0r (a0a a0b a0d))))
  (a0n (a0u a0b rfl)
  (a0u (a0p (a0a a0b (a0a a0b a0d))) rfl)))
  (e0x (a0r (a0k (t0p true) a0b a0b))
  (h0t (k0v a0b (a0a a0b a0d)))
  c0o)))))
  (b0o a0b)))⟩) ?_
 rintro ss q ⟨rows,rfl,hR,hq⟩
 have l24:=hR.l24
 refine⟨rfl,rfl,?_⟩
 refine cutS (fun ρ=>ρ=[.vl (.tup (a0e rows)),.ow [],.un,.un,.un]) (fun M hM=>⟨by simp,hM _ rfl⟩) ?_
 rintro _ rfl
 refine cutS (fun ρ=>∃s2 s3 s4,ρ=[.vl (.tup (a0e rows)),.ow ((a0l rows rows.length).map lstN),s2,s3,s4]) (fun M hM=>⟨⟨by omega,by rw[a0h];omega⟩,?_⟩) ?_
 ·rw[a0h,Int.toNat_natCast]
  refine g0p (fun p ρ=>∃s2 s3 s4,ρ=[.vl (.tup (a0e rows)),.ow ((a0l rows p).map lstN),s2,s3,s4]) (fun _ _ _=>trivial) ?_ (fun ρ ⟨s2,s3,s4,e⟩=>hM ρ ⟨s2,s3,s4,e⟩) ⟨.un,.un,.un,rfl⟩
  rintro p _ M2 hp ⟨s2,s3,s4,rfl⟩ hM2
  rw[Int.zero_add]
  have cln:(a0l rows p).length<=p:=by
   unfold a0l
   rw[List.length_map]
   refine Nat.le_trans (List.length_filter_le _ _) ?_
   rw[List.length_range];exact Nat.le_refl _
  refine cutS (fun ρ=>ρ=[.vl (.tup (a0e rows)),.ow ((a0l rows p).map lstN),nv p,.ow (a0e [p]),s4]) (fun M3 hM3=>⟨by simp,hM3 _ rfl⟩) ?_
  rintro _ rfl
  refine cutS (fun ρ=>ρ=[.vl (.tup (a0e rows)),.ow ((a0l rows p).map lstN),nv p,.ow (a0e [p]),.ow (a0e (wid rows [p]))]) (fun M3 hM3=>⟨rfl,rows,[p],_,.inl rfl,rfl,hR,List.pairwise_singleton _ _,fun i hi=>by rw[List.mem_singleton.mp hi];exact hp,hM3 _ rfl⟩) ?_
  rintro _ rfl
  refine cutS (fun ρ=>∃s3 s4,(s3 = .ow (a0e (comp rows p))∨s3 = .vl (lstN (comp rows p)))/\ρ=[.vl (.tup (a0e rows)),.ow ((a0l rows p).map lstN),nv p,s3,s4]) (fun M3 hM3=>y0g (fun ρ=>∃C s3,(s3 = .ow (a0e C)∨s3 = .vl (lstN C))/\C.Pairwise (· < ·)/\p∈C/\(∀j∈C,Conn rows p j)/\ρ=[.vl (.tup (a0e rows)),.ow ((a0l rows p).map lstN),nv p,s3,.ow (a0e (wid rows C))]) (fun ρ=>match ρ with | [_,_,_,.ow C,_]=>100 - C.length | [_,_,_,.vl (.lst C),_]=>100 - C.length | _=>0) ?_ _ ⟨[p],.ow (a0e [p]),.inl rfl,List.pairwise_singleton _ _,by simp,fun j hj=>by rw[List.mem_singleton.mp hj];exact .refl hp,rfl⟩) ?_
  ·rintro _ N ⟨C,s3,hs,up,hpC,hcon,rfl⟩ hN
   have hb:∀i∈C,i<rows.length:=fun i hi=>(hcon i hi).lt.2
   have wl:=y0e rows C
   have cl:=g0h up hb
   have go:decide (((a0e C).length:Int)<((a0e (wid rows C)).length:Int))=decide (C.length<(wid rows C).length):=by rw[a0h,a0h,decide_eq_decide];omega
   have no:¬C.length<(wid rows C).length->C=comp rows p:=fun h=>y0f up hpC hcon (by omega)
   have hl2:(a0e (wid rows C)).length=(wid rows C).length:=a0h _
   have hl1:(a0e C).length=C.length:=a0h _
   rcases hs with rfl | rfl
   ·show if decide (((a0e C).length:Int)<((a0e (wid rows C)).length:Int))=true then _ else _
    rw[go]
    by_cases h:C.length<(wid rows C).length
    ·rw[if_pos (decide_eq_true h)]
     refine cutS (fun ρ=>∃s4,ρ=[.vl (.tup (a0e rows)),.ow ((a0l rows p).map lstN),nv p,.vl (lstN (wid rows C)),s4]) (fun M4 hM4=>hM4 _ ⟨_,rfl⟩) ?_
     rintro _ ⟨s4,rfl⟩
     refine⟨rfl,rows,wid rows C,_,.inr rfl,rfl,hR,i0a rows C,fun i hi=>(e0w.mp hi).1,hN _ ⟨wid rows C,.vl (lstN (wid rows C)),.inr rfl,i0a rows C,o0g hb hpC,fun j hj=>s0a hcon hj,rfl⟩ ?_⟩
     show 100 - (a0e (wid rows C)).length<100 - (a0e C).length
     omega
    ·rw[if_neg (by simpa using h)]
     have e:=no h
     refine hM3 _ ⟨.ow (a0e C),.ow (a0e (wid rows C)),.inl (by rw[e]),rfl⟩
   ·show if decide (((a0e C).length:Int)<((a0e (wid rows C)).length:Int))=true then _ else _
    rw[go]
    by_cases h:C.length<(wid rows C).length
    ·rw[if_pos (decide_eq_true h)]
     refine cutS (fun ρ=>∃s4,ρ=[.vl (.tup (a0e rows)),.ow ((a0l rows p).map lstN),nv p,.vl (lstN (wid rows C)),s4]) (fun M4 hM4=>hM4 _ ⟨_,rfl⟩) ?_
     rintro _ ⟨s4,rfl⟩
     refine⟨rfl,rows,wid rows C,_,.inr rfl,rfl,hR,i0a rows C,fun i hi=>(e0w.mp hi).1,hN _ ⟨wid rows C,.vl (lstN (wid rows C)),.inr rfl,i0a rows C,o0g hb hpC,fun j hj=>s0a hcon hj,rfl⟩ ?_⟩
     show 100 - (a0e (wid rows C)).length<100 - (a0e C).length
     omega
    ·rw[if_neg (by simpa using h)]
     have e:=no h
     refine hM3 _ ⟨.vl (lstN C),.ow (a0e (wid rows C)),.inr (by rw[e]),rfl⟩
  rintro _ ⟨s3,s4,hs,rfl⟩
  have e2:(((a0l rows p).map lstN).any fun e=>eqD e (lstN (comp rows p)))=decide (comp rows p∈a0l rows p):=by
   rw[List.any_map,Bool.eq_iff_iff,List.any_eq_true,decide_eq_true_eq]
   constructor
   ·rintro⟨C',h1,h2⟩
    have h3:eqD (lstN C') (lstN (comp rows p))=true:=h2
    rw[q0r]at h3
    rw[<- of_decide_eq_true h3];exact h1
   ·intro h
    exact⟨_,h,e0l _⟩
  have dep:∀e∈(a0l rows p).map lstN,e.depth<=60:=fun e he=>by
   obtain⟨C',_,rfl⟩:=List.mem_map.mp he
   exact b0q _
  obtain⟨cs1,cs2⟩:=r0t hp
  rcases hs with rfl | rfl
  ·refine p0f (d:=lstN (comp rows p)) rfl rfl dep e2 ?_
   by_cases h:comp rows p∈a0l rows p
   ·rw[decide_eq_true h]
    exact hM2 _ ⟨_,_,_,by rw[cs1 h]⟩
   ·rw[decide_eq_false h]
    refine⟨by rw[List.length_map];omega,hM2 _ ⟨nv p,.vl (lstN (comp rows p)),s4,?_⟩⟩
    rw[cs2 h,List.map_append];rfl
  ·refine p0f (d:=lstN (comp rows p)) rfl rfl dep e2 ?_
   by_cases h:comp rows p∈a0l rows p
   ·rw[decide_eq_true h]
    exact hM2 _ ⟨_,_,_,by rw[cs1 h]⟩
   ·rw[decide_eq_false h]
    refine⟨by rw[List.length_map];omega,hM2 _ ⟨nv p,.vl (lstN (comp rows p)),s4,?_⟩⟩
    rw[cs2 h,List.map_append];rfl
 rintro _ ⟨s2,s3,s4,rfl⟩
 exact hq
theorem r0l (dn:DefN K mg "_law_due" c0y ["_law_wish_here"])(B:BI mg)(g_law_classes:OkN P w K mg base 2 "_law_classes" ["_law_rows"] (spA K j0k))(g_law_weight:OkN P w K mg base 1 "_law_weight" ["_law_row"] (spA K m0d)):OkN P w K mg base 3 "_law_due" ["_law_wish_here"] (spA K a1e):=by
 refine dn.aok2 (k:=2) c0j (fun j=>j==0) [.un,.un,.un,.un,.un,.un] a1e rfl (fun f cdv A outer s H E hr=>have hu:=f0n hr;⟨_,(a0f (a0z (i:=1) c0j.nd rfl (by first | exact Or.inl rfl | exact Or.inr rfl) (d0p (b0h K) (pv 0) a0j (fun _ _=>rfl)))
  (a0f (o0m (i:=2) ["_law_place"] [1] c0j.nd rfl (by first | exact Or.inl rfl | exact Or.inr rfl) rfl (Blk.of (a0i c0y) f0k) (c0q rfl B.range_ (a0c (a0w (b0j K) rfl B.len_ d0w (a0c (pv 1) a0g)) a0g)) (fun _ _ _ _ nd=>(b0b (i:=0) nd rfl (by first | exact Or.inl rfl | exact Or.inr rfl))) (fun _ _ _ _=>(d0y (PW.pt (k0a (a0v t0n (b0z g_law_weight (hr.mono (by decide)) (a0c (d0p (b0h K) (pv 1) (pv 0) (fun _ _=>rfl)) a0g)) a0j (b0n _)) (g0x (a0v (e0j K) (d0p (b0h K) (pv 1) (pv 0) (fun _ _=>rfl)) (l0f (s0w K) (pv 1) o0p (o0o (pv 0))) rfl)))))) (fun _ _ _ _=>(pv 0)))
  (a0f (a0z (i:=3) c0j.nd rfl (by first | exact Or.inl rfl | exact Or.inr rfl) (b0z g_law_classes (hr.mono (by decide)) (a0c (pv 1) a0g)))
  (a0f (a0z (i:=4) c0j.nd rfl (by first | exact Or.inl rfl | exact Or.inr rfl) a0j)
  (a0f (i0i PassesOwn.never rfl (d0m K (pv 3)) (b0b (i:=5) c0j.nd rfl (by first | exact Or.inl rfl | exact Or.inr rfl))
  (a0q (a0z (i:=4) c0j.nd rfl (by first | exact Or.inl rfl | exact Or.inr rfl) (a0x e0a (a0x h0i (pv 4) a0j) (a0w (b0j K) rfl B.len_ d0w (a0c (w0c ["_law_k"] [5,1] rfl (BlkC.of (a0i c0y) f0k) (c0q rfl B.range_ (a0c (d0p (b0h K) (pv 0) a0j (fun _ _=>rfl)) a0g)) (fun _ _ _ _ nd=>(b0b (i:=0) nd rfl (by first | exact Or.inl rfl | exact Or.inr rfl))) (fun _ _ _ _=>(d0y (a0v (i0k K hr.units) (e0h ["_law_at"] [2,0] rfl (Blk.inC (a0i c0y) ["_law_k", "_law_one", "_law_rows"]) (d0m K (pv 1)) (fun _ _ _ _ nd=>(b0b (i:=0) nd rfl (by first | exact Or.inl rfl | exact Or.inr rfl))) (fun _ _ _ _=>(d0y (a0v (f0p K hr.units) (a0x k0d (a0x q0h (d0p (b0h K) (pv 1) (pv 0) (fun _ _=>rfl)) (pv 2)) a0j) a0j (b0n _)))) (fun _ _ _ _=>(pv 0))) (f0o a0g) (b0n _)))) (fun _ _ _ _=>(pv 0))) a0g))))))
  (a0f (f0u (a0v (i0k K hr.units) (pv 2) (f0o a0g) (b0n _))
  (a0f (a0z (i:=6) c0j.nd rfl (by first | exact Or.inl rfl | exact Or.inr rfl) (a0x h0i (a0x e0a (a0w (b0j K) rfl B.len_ d0w (a0c (pv 2) a0g)) (a0w (n0w K rfl) rfl B.min_ x0y (a0c (e0h ["_law_place"] [1] rfl (Blk.of (a0i c0y) f0k) (d0m K (pv 2)) (fun _ _ _ _ nd=>(b0b (i:=0) nd rfl (by first | exact Or.inl rfl | exact Or.inr rfl))) (fun _ _ _ _=>i0g) (fun _ _ _ _=>(b0z g_law_weight (hr.mono (by decide)) (a0c (d0p (b0h K) (pv 1) (pv 0) (fun _ _=>rfl)) a0g)))) a0g))) a0j))
  (a0q (f0u (a0v y0z (pv 6) (pv 4) (b0n _))
  (a0q (b0w (g0f (a0c (pv 6) (a0c (g0f (a0c d0d (a0c (pv 2) a0g))) a0g)))))
  c0i)))
  c0i)
  (a0q (b0w (g0f (a0c (pv 4) (a0c (g0f (a0c d0d (a0c (pv 3) a0g))) a0g))))))))))),(a0n (a0u (a0k d0t a0b a0m) rfl)
  (a0n (k0y (b0x (c0n (a0a (b0t c0r (a0a a0b a0d)) a0d)) (a0s rfl) (g0d (a0r (a0k i0m (a0p (a0a (a0k d0t a0b a0b) a0d)) a0m)) (a0r (a0k (t0q true) (a0k d0t a0b a0b) (s0f a0b s0d (m0i a0b))))) a0b) rfl)
  (a0n (a0u (a0p (a0a a0b a0d)) rfl)
  (a0n (a0u a0m rfl)
  (a0n (f0t (pin:=(fun j=>j==3)) (c0m a0b) (a0s rfl)
  (a0u (a0k b0a (a0k b0a a0b a0m) (b0t c0r (a0a (b0x (c0n (a0a (a0k d0t a0b a0m) a0d)) (a0s rfl) (a0r (a0k i0l (b0x (c0m a0b) (a0s rfl) (a0r (a0k g0g (a0k b0a (a0k d0n (a0k d0t a0b a0b) a0b) a0m) a0m)) a0b) (d0x a0d))) a0b) a0d))) rfl))
  (a0n (e0x (a0r (a0k i0l a0b (d0x a0d)))
  (a0n (a0u (a0k b0a (a0k b0a (b0t c0r (a0a a0b a0d)) (b0t n0u (a0a (b0x (c0m a0b) (a0s rfl) g0e (a0p (a0a (a0k d0t a0b a0b) a0d))) a0d))) a0m) rfl)
  (e0x (a0r (a0k i0m a0b a0b))
  (b0o (e0d (a0a a0b (a0a (e0d (a0a k0u (a0a a0b a0d))) a0d))))
  c0o))
  c0o)
  (b0o (e0d (a0a a0b (a0a (e0d (a0a k0u (a0a a0b a0d))) a0d))))))))))⟩) ?_
 rintro ss q ⟨m,rows,rfl,hM',hq⟩
 obtain⟨m1,m2,hR,hrm⟩:=hM'
 have l24:=hR.l24
 have ixr:∀ {p:Nat},p<rows.length->atI (a0e rows) ((p:Nat):Int)=some (nD (rw1 rows p)):=fun{p} h=>by rw[show rw1 rows p=rows.getD p 0 from rfl];exact e0s h
 refine⟨rfl,rfl,?_⟩
 refine cutS (fun ρ=>ρ=[.vl (c0u m rows),.vl (.tup (a0e rows)),.un,.un,.un,.un,.un]) (fun M hM=>g0a rfl rfl (hM _ rfl)) ?_
 rintro _ rfl
 refine cutS (fun ρ=>ρ=[.vl (c0u m rows),.vl (.tup (a0e rows)),.ow (a0e (fpl rows)),.un,.un,.un,.un]) (fun M hM=>⟨⟨by omega,by rw[a0h];omega⟩,by rw[c0e,a0h];omega,?_⟩) ?_
 ·rw[a0h,Int.toNat_natCast]
  refine d0b (fun k acc ρ=>acc=a0e ((List.range k).filter fun p=>decide (1<wt (rw1 rows p)) && !((rows.take p).contains (rw1 rows p)))/\ρ=[.vl (c0u m rows),.vl (.tup (a0e rows)),.un,.un,.un,.un,.un]) (fun _ _ _ _ _=>trivial) ?_ ?_ _ ⟨rfl,rfl⟩
  ·rintro k d acc _ M3 hk ⟨rfl,rfl⟩ hM3
   obtain⟨lt,rfl⟩:=f0i hk
   rw[Int.zero_add]
   have fs:=h0x (fun p=>decide (1<wt (rw1 rows p)) && !((rows.take p).contains (rw1 rows p))) (List.range k) k
   rw[<- List.range_succ]at fs
   refine g0a (i:=k) (ds:=a0e rows) (d:=nD (rw1 rows k)) rfl (ixr lt) ?_
   refine⟨rfl,rw1 rows k,rfl,(hR.at lt).2,?_⟩
   have e1:decide ((1:Int)<((wt (rw1 rows k):Nat):Int))=decide (1<wt (rw1 rows k)):=by rw[decide_eq_decide];omega
   show if decide ((1:Int)<((wt (rw1 rows k):Nat):Int))=true then _ else _
   rw[e1]
   cases h1:decide (1<wt (rw1 rows k))with
   | false=>exact hM3 _ _ ⟨by rw[fs];simp[h1],rfl⟩
   | true =>
    refine g0a (i:=k) (ds:=a0e rows) (d:=nD (rw1 rows k)) rfl (ixr lt) ?_
    have ec:cutD (a0e rows) none (some ((k:Nat):Int))=a0e (rows.take k):=by
     rw[n0s];unfold a0e;rw[List.map_take]
    show gIn true (.d (nD (rw1 rows k))) (.d (.tup (cutD (a0e rows) none (some ((k:Nat):Int))))) _ _
    rw[ec]
    refine x0r (xs:=rows.take k) rfl ?_
    cases h2:(rows.take k).contains (rw1 rows k)with
    | true=>exact hM3 _ _ ⟨by rw[fs];simp only[h1,h2];rfl,rfl⟩
    | false=>exact hM3 _ _ ⟨by rw[fs];simp only[h1,h2];rfl,rfl⟩
  ·rintro acc _ ⟨rfl,rfl⟩
   rw[c0e]
   exact hM _ rfl
 rintro _ rfl
 refine cutS (fun ρ=>ρ=[.vl (c0u m rows),.vl (.tup (a0e rows)),.ow (a0e (fpl rows)),.ow ((a0l rows rows.length).map lstN),.un,.un,.un]) (fun M hM=>⟨rfl,rows,rfl,hR,hM _ rfl⟩) ?_
 rintro _ rfl
 refine cutS (fun ρ=>ρ=[.vl (c0u m rows),.vl (.tup (a0e rows)),.ow (a0e (fpl rows)),.ow ((a0l rows rows.length).map lstN),nv 0,.un,.un]) (fun M hM=>hM _ rfl) ?_
 rintro _ rfl
 refine cutS (fun ρ=>∃s5,ρ=[.vl (c0u m rows),.vl (.tup (a0e rows)),.ow (a0e (fpl rows)),.ow ((a0l rows rows.length).map lstN),.vl (.int (h0q rows)),s5,.un]) (fun M hM=>⟨rfl,?_⟩) ?_
 ·refine q0p lstN (fun k ρ=>∃s5,ρ=[.vl (c0u m rows),.vl (.tup (a0e rows)),.ow (a0e (fpl rows)),.ow ((a0l rows rows.length).map lstN),.vl (.int ((((a0l rows rows.length).take k).map fun C=>((wt (orN rows C):Nat):Int) - 1).sum)),s5,.un]) (fun _ _ ⟨_,e⟩=>by subst e;rfl) ?_ ?_ ⟨.un,rfl⟩
  ·rintro k C _ M2 hk ⟨s5,rfl⟩ hM2
   obtain⟨hC,_⟩:=l0w (List.mem_of_getElem? hk)
   have c24:C.length<=24:=by
    have:=List.mem_of_getElem? hk
    unfold a0l at this
    obtain⟨p,_,rfl⟩:=List.mem_map.mp this
    have:=q0t rows p
    omega
   have es:((a0l rows rows.length).take (k+1)).map (fun C=>((wt (orN rows C):Nat):Int) - 1)=((a0l rows rows.length).take k).map (fun C=>((wt (orN rows C):Nat):Int) - 1)++[((wt (orN rows C):Nat):Int) - 1]:=by
    rw[List.take_add_one,hk,List.map_append];rfl
   rw[es,List.sum_append]at hM2
   generalize (((a0l rows rows.length).take k).map fun C=>((wt (orN rows C):Nat):Int) - 1).sum=S at hM2
   show aSet _ _ _ [.vl (c0u m rows),.vl (.tup (a0e rows)),.ow (a0e (fpl rows)),.ow ((a0l rows rows.length).map lstN),.vl (.int S),.vl (lstN C),.un]
   refine g0a (i:=0) (ds:=[nD m,.tup (a0e rows)]) (d:=nD m) rfl rfl ?_
   refine⟨⟨by omega,by omega⟩,by rw[c0e];omega,?_⟩
   rw[Int.toNat_natCast]
   refine d0b (fun j acc ρ=>acc=a0e ((List.range j).filter (orN rows C).testBit)/\ρ=[.vl (c0u m rows),.vl (.tup (a0e rows)),.ow (a0e (fpl rows)),.ow ((a0l rows rows.length).map lstN),.vl (.int S),.vl (lstN C),.un]) (fun _ _ _ _ _=>trivial) ?_ ?_ _ ⟨rfl,rfl⟩
   ·rintro j d acc _ M3 hj ⟨rfl,rfl⟩ hM3
    obtain⟨lt,rfl⟩:=f0i hj
    rw[Int.zero_add]
    have fs:=h0x (orN rows C).testBit (List.range j) j
    rw[<- List.range_succ]at fs
    refine⟨by rw[a0h];omega,?_⟩
    refine f0c nD (fun i=>(rw1 rows i).testBit j) nD trivial (fun i acc M4 hi hM4=>?_) ?_
    ·refine g0a (i:=i) (ds:=a0e rows) (d:=nD (rw1 rows i)) rfl (ixr (hC i hi)) ?_
     refine⟨Int.natCast_nonneg _,c0t rfl rfl (by simp[D.depth]) (v0c (rw1 rows i) j) ?_⟩
     cases e:(rw1 rows i).testBit j with
     | false=>rw[e]at hM4;exact hM4
     | true=>rw[e]at hM4;exact hM4
    ·have hb:(orN rows C).testBit j = !decide ((C.filter fun i=>(rw1 rows i).testBit j)=[]):=by
      unfold orN
      rw[t0l,Nat.zero_testBit,Bool.false_or,Bool.eq_iff_iff,List.any_eq_true,Bool.not_eq_true',decide_eq_false_iff_not,List.filter_eq_nil_iff]
      constructor
      ·rintro⟨i,hi,h⟩ z
       exact z i hi h
      ·intro h
       apply Classical.byContradiction
       intro z
       exact h fun i hi y=>z ⟨i,hi,y⟩
     generalize (C.filter fun i=>(rw1 rows i).testBit j)=L at hb
     refine⟨by simp,c0t (b:=decide (L=[])) rfl rfl (b0q _) (by cases L <;> rfl) ?_⟩
     cases e:decide (L=[])with
     | true =>
      rw[e]at hb
      exact hM3 _ _ ⟨by rw[fs,hb];rfl,rfl⟩
     | false =>
      rw[e]at hb
      exact hM3 _ _ ⟨by rw[fs,hb];rfl,rfl⟩
   ·rintro acc _ ⟨rfl,rfl⟩
    rw[c0e]
    have ew:(a0e ((List.range m).filter (orN rows C).testBit)).length=wt (orN rows C):=by
     rw[a0h,k0h (show orN rows C<2^m from t0j hrm C 0 hC (Nat.two_pow_pos m))];rfl
    refine hM2 _ ⟨.vl (lstN C),?_⟩
    show[Sv.vl (c0u m rows),.vl (.tup (a0e rows)),.ow (a0e (fpl rows)),.ow ((a0l rows rows.length).map lstN),.vl (.int (S - 1+(((a0e ((List.range m).filter (orN rows C).testBit)).length:Nat):Int))),.vl (lstN C),.un]=_
    rw[ew]
    rw[show S - 1+((wt (orN rows C):Nat):Int)=S+[((wt (orN rows C):Nat):Int) - 1].sum by simp;omega]
  ·rintro _ ⟨s5,rfl⟩
   rw[List.take_length]
   exact hM _ ⟨s5,rfl⟩
 rintro _ ⟨s5,rfl⟩
 by_cases hf:fpl rows=[]
 ·unfold bndD at hq
  rw[if_pos hf]at hq
  refine cutS (fun ρ=>ρ=[.vl (c0u m rows),.vl (.tup (a0e rows)),.ow (a0e (fpl rows)),.ow ((a0l rows rows.length).map lstN),.vl (.int (h0q rows)),s5,.un]) (fun M hM=>⟨by simp,c0t (b:=true) rfl rfl (b0q _) (by rw[hf];rfl) (hM _ rfl)⟩) ?_
  rintro _ rfl
  exact⟨by simp,by simp,hq⟩
 ·unfold bndD at hq
  rw[if_neg hf]at hq
  have hfl:=u0m rows
  have eqf:eqD (.lst (a0e (fpl rows))) (.lst [])=false:=by
   cases h:fpl rows with
   | nil=>exact absurd h hf
   | cons p ps=>rfl
  refine cutS (fun ρ=>∃s6,¬h0q rows<=unlZ rows/\ρ=[.vl (c0u m rows),.vl (.tup (a0e rows)),.ow (a0e (fpl rows)),.ow ((a0l rows rows.length).map lstN),.vl (.int (h0q rows)),s5,s6]) (fun M hM=>⟨by simp,c0t (b:=false) rfl rfl (b0q _) eqf ?_⟩) ?_
  ·simp only[if_true,Bool.not_false]
   refine cutS (fun ρ=>ρ=[.vl (c0u m rows),.vl (.tup (a0e rows)),.ow (a0e (fpl rows)),.ow ((a0l rows rows.length).map lstN),.vl (.int (h0q rows)),s5,.vl (.int (unlZ rows))]) (fun M2 hM2=>⟨rfl,by rw[a0h];omega,?_⟩) ?_
   ·refine j0c nD (fun p=>nD (wt (rw1 rows p))) rfl (fun p acc M3 hp hM3=>?_) ?_
    ·have h1:=x0t hp
     refine g0a (i:=p) (ds:=a0e rows) (d:=nD (rw1 rows p)) rfl (ixr h1) ?_
     exact⟨rfl,rw1 rows p,rfl,(hR.at h1).2,hM3⟩
    ·refine q0o (ns:=(fpl rows).map fun p=>((wt (rw1 rows p):Nat):Int)) (by rw[List.map_map];rfl) (fun z=>hf (List.map_eq_nil_iff.mp z)) fun M3 h1 h2=>?_
     have:=x0o h1 h2
     unfold unlZ at hM2
     rw[this]at hM2
     rw[a0h]
     exact hM2 _ rfl
   rintro _ rfl
   by_cases g:h0q rows<=unlZ rows
   ·rw[if_pos g]at hq
    exact ite2 (fun _=>⟨by simp,by simp,hq⟩) fun z=>absurd (decide_eq_true g) z
   ·exact ite2 (fun z=>absurd (of_decide_eq_true z) g) fun _=>hM _ ⟨_,g,rfl⟩
  rintro _ ⟨s6,g,rfl⟩
  rw[if_neg g]at hq
  exact⟨by simp,by simp,hq⟩
theorem c1e (dn:DefN K mg "law" v0v ["_law_script"])(B:BI mg)(g_law_tape:OkN P w K mg base 1 "_law_tape" ["_law_script"] (spA K a1d))(g_law_wish:OkN P w K mg base 2 "_law_wish" ["_law_tape_here"] (spA K v0g))(g_law_due:OkN P w K mg base 3 "_law_due" ["_law_wish_here"] (spA K a1e))(g_bound:OkN P w K mg base 4 "bound" ["wish"] (spA K v0h))(g_law_whole:OkN P w K mg base 1 "_law_whole" ["_law_found"] (spA K j0j)):OkN P w K mg base 5 "law" ["_law_script"] (spA K SLaw):=by
 refine dn.aok2 (k:=4) j0z (fun j=>j==0) [.un,.un,.un,.un,.un] SLaw rfl (fun f cdv A outer s H E hr=>have hu:=f0n hr;⟨_,(a0f (a0z (i:=1) j0z.nd rfl (by first | exact Or.inl rfl | exact Or.inr rfl) (b0z g_law_tape (hr.mono (by decide)) (a0c (pv 0) a0g)))
  (a0f (i0i PassesOwn.never rfl (c0q rfl B.range_ (a0c a0j a0g)) (b0b (i:=2) j0z.nd rfl (by first | exact Or.inl rfl | exact Or.inr rfl))
  (a0f (a0z (i:=3) j0z.nd rfl (by first | exact Or.inl rfl | exact Or.inr rfl) (b0z g_law_wish (hr.mono (by decide)) (a0c (pv 1) a0g)))
  (a0f (a0z (i:=4) j0z.nd rfl (by first | exact Or.inl rfl | exact Or.inr rfl) (b0z g_law_due (hr.mono (by decide)) (a0c (pv 3) a0g)))
  (a0f (a0z (i:=5) j0z.nd rfl (by first | exact Or.inl rfl | exact Or.inr rfl) (b0z g_bound (hr.mono (by decide)) (a0c (pv 3) a0g)))
  (a0f (f0u (PW.pt (y0r (t0e (x0n (a0w (j0g K) rfl B.isinstance_ e0p (a0c (pv 5) (a0c (y0t rfl B.tuple_ q0w) a0g))))) (y0r (t0e (x0n (b0z g_law_whole (hr.mono (by decide)) (a0c (d0p (b0h K) (pv 5) a0j (fun _ _=>rfl)) a0g)))) (x0m (a0v (i0k K hr.units) (pv 5) (pv 4) (b0n _))))))
  (a0q (b0w y0x))
  c0i)
  (a0f (f0u (a0v (f0p K hr.units) (d0p (b0h K) (d0p (b0h K) (pv 5) a0j (fun _ _=>rfl)) a0j (fun _ _=>rfl)) d0d (b0n _))
  (a0q (g0y (o0s K PySem.F.plainAttrs_list PySem.F.slot_list_clear PySem.F.type_list_clear q0j (d0p (b0h K) (d0p (b0h K) (d0p (b0h K) (pv 5) a0j (fun _ _=>rfl)) a0j (fun _ _=>rfl)) a0j (fun _ _=>rfl)))))
  c0i)
  (a0f (g0y (o0s K PySem.F.plainAttrs_list PySem.F.slot_list_clear PySem.F.type_list_clear q0j (d0p (b0h K) (d0p (b0h K) (pv 5) a0j (fun _ _=>rfl)) a0j (fun _ _=>rfl))))
  (a0q (f0u (a0v (i0k K hr.units) (b0z g_bound (hr.mono (by decide)) (a0c (pv 3) a0g)) (pv 4) (b0n _))
  (a0q (b0w y0x))
  c0i)))))))))
  (a0q (b0w y0x)))),(a0n (a0u (a0p (a0a a0b a0d)) rfl)
  (a0n (f0t (pin:=(fun _=>false)) (c0n (a0a a0m a0d)) (a0s rfl)
  (a0n (a0u (a0p (a0a a0b a0d)) rfl)
  (a0n (a0u (a0p (a0a a0b a0d)) rfl)
  (o0k (prB:=(fun j=>!(false))) rfl (by intro j h;simp at h ⊢ <;> omega) rfl (a0a a0b a0d)
  (e0x (o0h (k0t (s0c (b0t l0z (a0a a0b (a0a s0e a0d))))) (o0h (k0t (s0c (a0p (a0a (a0k d0t a0b a0m) a0d)))) (a0r (a0k i0l a0b a0b))))
  (b0o s0i)
  c0o)
  z0d
  (e0x (a0r (a0k i0l (a0p (a0a a0b a0d)) a0b))
  (b0o s0i)
  c0o)))))
  (b0o s0i)))⟩) ?_
 rintro ss q ⟨ns,hl,rfl,hq⟩
 refine⟨rfl,rfl,rfl,ns,rfl,?_⟩
 dsimp only[stS,pt,back,R.frz]
 refine⟨by decide,?_⟩
 refine g0p (fun k ρ=>∃n s2 s3 s4 s5,n<=300*k/\ρ=[.sc ns,.tp n,s2,s3,s4,s5]) (fun _ _ _=>trivial) ?_ (fun ρ ⟨n,s2,s3,s4,s5,_,e⟩=>by subst e;exact hq _) ⟨0,.un,.un,.un,.un,by omega,rfl⟩
 rintro k _ M hk ⟨n,s2,s3,s4,s5,hn,rfl⟩ hM
 have hk3:k<3:=hk
 refine cutS (fun ρ=>∃m rows n',w0v m rows/\n'<=n+300/\ρ=[.sc ns,.tp n',.vl (.int (0+(k:Int))),.vl (c0u m rows),s4,s5]) (fun M2 hM2=>⟨rfl,n,rfl,by omega,fun m rows n' h1 h2=>hM2 _ ⟨m,rows,n',h1,h2,rfl⟩⟩) ?_
 rintro _ ⟨m,rows,n',hRM,hn',rfl⟩
 obtain⟨m1,m2,hR,hrm⟩:=id hRM
 refine cutS (fun ρ=>ρ=[.sc ns,.tp n',.vl (.int (0+(k:Int))),.vl (c0u m rows),.vl (bndD rows),s5]) (fun M2 hM2=>⟨rfl,m,rows,rfl,hRM,hM2 _ rfl⟩) ?_
 rintro _ rfl
 have shp:(bndD rows=n0j rows∨bndD rows=unlD rows):=by
  unfold bndD
  split
  ·exact .inl rfl
  ·split
   ·exact .inr rfl
   ·exact .inl rfl
 have dep:(bndD rows).depth<=60:=by
  rcases shp with e | e
  ·rw[e]
   have:=r0s (a0l rows rows.length)
   unfold n0j
   simp only[D.depth,depths]
   omega
  ·rw[e]
   have:=h0c (fpl rows)
   unfold unlD
   simp only[D.depth,depths]
   omega
 refine cutS (fun ρ=>∃s5,ρ=[.sc ns,.tp n',.vl (.int (0+(k:Int))),.vl (c0u m rows),.vl (bndD rows),s5]) (fun M2 hM2=>?_) ?_
 ·refine⟨(by show 5<6;decide),?_,m,rows,rfl,hR,?_⟩
  ·show((true&&(noLs (a0e rows)&&true))&&true)=true
   rw[m0y];rfl
  refine⟨_,rfl,?_,?_⟩
  ·rcases shp with e | e
   ·rw[e]
    refine⟨_,_,_,rfl,fun _=>?_⟩
    have hne:(a0l rows rows.length)≠[]:=by
     have hm:=(i0z (Nat.le_refl rows.length) (p:=0) hR.l1).mpr ⟨0,hR.l1,.refl hR.l1⟩
     exact List.ne_nil_of_mem hm
    cases h:a0l rows rows.length with
    | nil=>exact absurd h hne
    | cons C L=>exact⟨a0e C,L.map lstN,rfl⟩
   ·rw[e]
    refine⟨_,_,_,rfl,fun z=>absurd z (by decide +kernel)⟩
  ·have isT:∃a b,bndD rows = .tup [.int a,b]:=by
    rcases shp with e | e
    ·exact⟨_,_,e⟩
    ·exact⟨_,_,e⟩
   obtain⟨a,b,eb⟩:=isT
   rw[eb]at dep hM2 ⊢
   refine e0k rfl h0p ?_
   refine g0a (i:=0) (ds:=[.int a,b]) (d:=.int a) rfl rfl ⟨rfl,_,rfl,?_⟩
   refine c0t (b:=true) rfl rfl dep (e0l _) ?_
   exact⟨⟨fun _=>rfl,fun _=>rfl,fun _=>rfl,fun _=>rfl,fun _=>rfl,fun _=>rfl,trivial⟩,hM2 _ ⟨.un,rfl⟩⟩
 rintro _ ⟨s5,rfl⟩
 refine⟨rfl,m,rows,rfl,hR,c0t (b:=true) rfl rfl dep (e0l _) ?_⟩
 exact hM _ ⟨n',_,_,_,_,by omega,rfl⟩
theorem fin (d_weight:DefN K mg "weight" h0u ["row"])(d_givens_of:DefN K mg "givens_of" d0l ["row"])(d_bound:DefN K mg "bound" l0c ["wish"])(d_first_places:DefN K mg "first_places" c0c ["rows"])(d_classes_of:DefN K mg "classes_of" b0v ["rows"])(d_givens_in:DefN K mg "givens_in" e0g ["rows", "places"])(d_unlike_number:DefN K mg "unlike_number" b0u ["rows", "places"])(d_hang_number:DefN K mg "hang_number" c0p ["rows", "classes"])(d_law_tape:DefN K mg "_law_tape" f0g ["_law_script"])(d_law_draw:DefN K mg "_law_draw" f0h ["_law_tape_here", "_law_many"])(d_law_whole:DefN K mg "_law_whole" e0f ["_law_found"])(d_law_weight:DefN K mg "_law_weight" c0x ["_law_row"])(d_law_wish:DefN K mg "_law_wish" d0z ["_law_tape_here"])(d_law_wider:DefN K mg "_law_wider" d0k ["_law_rows", "_law_places"])(d_law_classes:DefN K mg "_law_classes" d0g ["_law_rows"])(d_law_due:DefN K mg "_law_due" c0y ["_law_wish_here"])(d_law:DefN K mg "law" v0v ["_law_script"])(B:BI mg):OkN P w K mg base 5 "law" ["_law_script"] (y0m K) :=
 have g_law_tape:=o0v d_law_tape B
 have g_law_draw:=o0w d_law_draw B
 have g_givens_of:=m0v d_givens_of B
 have g_weight:=t0s d_weight B g_givens_of
 have g_givens_in:=m0w d_givens_in B
 have g_classes_of:=l0j d_classes_of B g_givens_in
 have g_hang_number:=j0n d_hang_number B g_weight g_givens_in
 have g_unlike_number:=h0o d_unlike_number B g_weight
 have g_first_places:=i0n d_first_places B g_weight
 have g_bound:=w0e d_bound B g_classes_of g_first_places g_hang_number g_unlike_number
 have g_law_whole:=m0u d_law_whole B
 have g_law_weight:=l0i d_law_weight B
 have g_law_wish:=o0u d_law_wish B g_law_draw
 have g_law_wider:=m0t d_law_wider B
 have g_law_classes:=j0m d_law_classes B g_law_wider
 have g_law_due:=r0l d_law_due B g_law_classes g_law_weight
 have g_law:=c1e d_law B g_law_tape g_law_wish g_law_due g_bound g_law_whole
 c1m g_law
end
end K67
namespace PySem.W.Fast
def tw13759124317903682730:=()
def tw14239844506117672288:=()
def tw11822762439763989660:=()
def tw5868003721892420552:=()
def tw8814351380921775939:=()
def tw16118859267380183417:=()
def tw5435610130345975031:=()
def tw2179603792018701768:=()
def tw12873719334203644077:=()
def tw2105440487315535465:=()
def tw7096438925679038392:=()
def tw13306467742802037874:=()
def tw17642111786837541061:=()
def tw14959464300326550632:=()
def tw16537801981931078300:=()
def tw18288882017617061947:=()
def tw3324648716156325760:=()
def tw1907484398659726956:=()
def tw2510104246057118475:=()
def tw16699568163742037168:=()
def tw340175652970802337:=()
def tw5879751182411983617:=()
def tw12227099488001093882:=()
def tw9667689229302754291:=()
def tw15675556567255932020:=()
def tw6257149094323307931:=()
def tw15430918402772811247:=()
def tw17125704933672587836:=()
def tw5048841828887497180:=()
def tw2822633191202293960:=()
def tw1913701770123265936:=()
def tw5518773115888964321:=()
def tw16408228897219887745:=()
def tw13888919482689631389:=()
def tw12316651003420247234:=()
def tw13160769624498931647:=()
def tw5958403693354669231:=()
def tw17439572524191776308:=()
def tw1441707631426426310:=()
def tw13870775859113086236:=()
def tw15567636391896082916:=()
def tw10474545576786828399:=()
def tw3243346712809823726:=()
def tw16621363111275918480:=()
def tw6527508807995049466:=()
def tw13547456755663081010:=()
def tw5563067373256047960:=()
def tw8968421378655157728:=()
def tw1282530441537157375:=()
def tw13075260019779555377:=()
def tw9160932100529821461:=()
def tw3241901799909382070:=()
def tw8911508249574130740:=()
def tw287766148081160460:=()
def tw6485399987719213041:=()
def tw16053786206862347528:=()
def tw9883443593754386217:=()
def tw11343636241169081521:=()
def tw17510739977541032856:=()
def tw15075164862739792564:=()
def tw573276393331057682:=()
def tw8066625703322748454:=()
def tw1001279027544096121:=()
def tw13361747556189401546:=()
def tw15644433510611661668:=()
def tw4271210073119548652:=()
def tw5785521041588091083:=()
def tw9761029876112208956:=()
def tw12060575976875917743:=()
def tw199288381433859716:=()
def tw4902571409560189201:=()
def tw8370395963820160151:=()
def tw10006361884519598505:=()
def tw14331474773699221802:=()
def tw9262873304290386788:=()
def tw5367046618258231078:=()
def tw6256222981027038442:=()
def tw17695233933658773004:=()
def tw8684542376257308198:=()
def tw733292706963253224:=()
def tw10900663170312786201:=()
def tw14483684086754735307:=()
def tw16798372035435880884:=()
def tw18432107886368691179:=()
def tw9304586977407222450:=()
def tw1430225526076735841:=()
def tw13528712944293059692:=()
def tw9145285065222412975:=()
def tw1287506679952358889:=()
def tw4393126750653883951:=()
def tw9823536070483919455:=()
def tw16354883014466580107:=()
def tw3799282860274520693:=()
def tw5138104960737680548:=()
def tw3798155747456328480:=()
def tw14637432381335282673:=()
def tw6559929196935161682:=()
def tw7418767534590487300:=()
def tw7742438396991703038:=()
def tw8418145274703423219:=()
def tw13243288414274004534:=()
end PySem.W.Fast
open PySem PySem.W PyProof.Rows
set_option maxRecDepth 100000 in
set_option maxHeartbeats 0 in
theorem PySem.Challenge.cw_fewjoins_k67_the_bound_holds : PySem.Challenge.rw_fewjoins_k67_the_bound.Holds := by
 w_on;o_law;k_head;(case hw=>w_witness2)
 k_fill
 refine L2.v0m (l:=PySem.Challenge.rw_fewjoins_k67_the_bound) (n:=63) (k:=5) (x := "_law_script") (CX:=L2.CX0) (sp:=L2.y0m) rfl (by decide) rfl ⟨rfl,by decide,by decide⟩ (fun w h Y=>PySem.W.kIn_of Y) ?F ?S ?C
 case S=>exact fun K H a ns hl hO hS=>⟨a,ns,rfl,hS,hl,fun _=>rfl⟩
 case C=>exact fun H s e s' h=>h
 case F =>
  intro w mg fa h KX G hmg
  have d_weight:L2.DefN (L2.KOf KX) mg "weight" K67.h0u ["row"]:=by
   dsimp only[L2.KOf]
   refine' L2.d0a KX G ?a ?l ?c ?k (fun _ _ _ _ _ _ us hl=>match us,hl with | [_],_=>rfl)
   (case a=>k_is);(case l=>k_is);(case c=>k_is);(case k=>k_is)
  have d_givens_of:L2.DefN (L2.KOf KX) mg "givens_of" K67.d0l ["row"]:=by
   dsimp only[L2.KOf]
   refine' L2.d0a KX G ?a ?l ?c ?k (fun _ _ _ _ _ _ us hl=>match us,hl with | [_],_=>rfl)
   (case a=>k_is);(case l=>k_is);(case c=>k_is);(case k=>k_is)
  have d_bound:L2.DefN (L2.KOf KX) mg "bound" K67.l0c ["wish"]:=by
   dsimp only[L2.KOf]
   refine' L2.d0a KX G ?a ?l ?c ?k (fun _ _ _ _ _ _ us hl=>match us,hl with | [_],_=>rfl)
   (case a=>k_is);(case l=>k_is);(case c=>k_is);(case k=>k_is)
  have d_first_places:L2.DefN (L2.KOf KX) mg "first_places" K67.c0c ["rows"]:=by
   dsimp only[L2.KOf]
   refine' L2.d0a KX G ?a ?l ?c ?k (fun _ _ _ _ _ _ us hl=>match us,hl with | [_],_=>rfl)
   (case a=>k_is);(case l=>k_is);(case c=>k_is);(case k=>k_is)
  have d_classes_of:L2.DefN (L2.KOf KX) mg "classes_of" K67.b0v ["rows"]:=by
   dsimp only[L2.KOf]
   refine' L2.d0a KX G ?a ?l ?c ?k (fun _ _ _ _ _ _ us hl=>match us,hl with | [_],_=>rfl)
   (case a=>k_is);(case l=>k_is);(case c=>k_is);(case k=>k_is)
  have d_givens_in:L2.DefN (L2.KOf KX) mg "givens_in" K67.e0g ["rows", "places"]:=by
   dsimp only[L2.KOf]
   refine' L2.d0a KX G ?a ?l ?c ?k (fun _ _ _ _ _ _ us hl=>match us,hl with | [_,_],_=>rfl)
   (case a=>k_is);(case l=>k_is);(case c=>k_is);(case k=>k_is)
  have d_unlike_number:L2.DefN (L2.KOf KX) mg "unlike_number" K67.b0u ["rows", "places"]:=by
   dsimp only[L2.KOf]
   refine' L2.d0a KX G ?a ?l ?c ?k (fun _ _ _ _ _ _ us hl=>match us,hl with | [_,_],_=>rfl)
   (case a=>k_is);(case l=>k_is);(case c=>k_is);(case k=>k_is)
  have d_hang_number:L2.DefN (L2.KOf KX) mg "hang_number" K67.c0p ["rows", "classes"]:=by
   dsimp only[L2.KOf]
   refine' L2.d0a KX G ?a ?l ?c ?k (fun _ _ _ _ _ _ us hl=>match us,hl with | [_,_],_=>rfl)
   (case a=>k_is);(case l=>k_is);(case c=>k_is);(case k=>k_is)
  have d_law_tape:L2.DefN (L2.KOf KX) mg "_law_tape" K67.f0g ["_law_script"]:=by
   dsimp only[L2.KOf]
   refine' L2.d0a KX G ?a ?l ?c ?k (fun _ _ _ _ _ _ us hl=>match us,hl with | [_],_=>rfl)
   (case a=>k_is);(case l=>k_is);(case c=>k_is);(case k=>k_is)
  have d_law_draw:L2.DefN (L2.KOf KX) mg "_law_draw" K67.f0h ["_law_tape_here", "_law_many"]:=by
   dsimp only[L2.KOf]
   refine' L2.d0a KX G ?a ?l ?c ?k (fun _ _ _ _ _ _ us hl=>match us,hl with | [_,_],_=>rfl)
   (case a=>k_is);(case l=>k_is);(case c=>k_is);(case k=>k_is)
  have d_law_whole:L2.DefN (L2.KOf KX) mg "_law_whole" K67.e0f ["_law_found"]:=by
   dsimp only[L2.KOf]
   refine' L2.d0a KX G ?a ?l ?c ?k (fun _ _ _ _ _ _ us hl=>match us,hl with | [_],_=>rfl)
   (case a=>k_is);(case l=>k_is);(case c=>k_is);(case k=>k_is)
  have d_law_weight:L2.DefN (L2.KOf KX) mg "_law_weight" K67.c0x ["_law_row"]:=by
   dsimp only[L2.KOf]
   refine' L2.d0a KX G ?a ?l ?c ?k (fun _ _ _ _ _ _ us hl=>match us,hl with | [_],_=>rfl)
   (case a=>k_is);(case l=>k_is);(case c=>k_is);(case k=>k_is)
  have d_law_wish:L2.DefN (L2.KOf KX) mg "_law_wish" K67.d0z ["_law_tape_here"]:=by
   dsimp only[L2.KOf]
   refine' L2.d0a KX G ?a ?l ?c ?k (fun _ _ _ _ _ _ us hl=>match us,hl with | [_],_=>rfl)
   (case a=>k_is);(case l=>k_is);(case c=>k_is);(case k=>k_is)
  have d_law_wider:L2.DefN (L2.KOf KX) mg "_law_wider" K67.d0k ["_law_rows", "_law_places"]:=by
   dsimp only[L2.KOf]
   refine' L2.d0a KX G ?a ?l ?c ?k (fun _ _ _ _ _ _ us hl=>match us,hl with | [_,_],_=>rfl)
   (case a=>k_is);(case l=>k_is);(case c=>k_is);(case k=>k_is)
  have d_law_classes:L2.DefN (L2.KOf KX) mg "_law_classes" K67.d0g ["_law_rows"]:=by
   dsimp only[L2.KOf]
   refine' L2.d0a KX G ?a ?l ?c ?k (fun _ _ _ _ _ _ us hl=>match us,hl with | [_],_=>rfl)
   (case a=>k_is);(case l=>k_is);(case c=>k_is);(case k=>k_is)
  have d_law_due:L2.DefN (L2.KOf KX) mg "_law_due" K67.c0y ["_law_wish_here"]:=by
   dsimp only[L2.KOf]
   refine' L2.d0a KX G ?a ?l ?c ?k (fun _ _ _ _ _ _ us hl=>match us,hl with | [_],_=>rfl)
   (case a=>k_is);(case l=>k_is);(case c=>k_is);(case k=>k_is)
  have d_law:L2.DefN (L2.KOf KX) mg "law" K67.v0v ["_law_script"]:=by
   dsimp only[L2.KOf]
   refine' L2.d0a KX G ?a ?l ?c ?k (fun _ _ _ _ _ _ us hl=>match us,hl with | [_],_=>rfl)
   (case a=>k_is);(case l=>k_is);(case c=>k_is);(case k=>k_is)
  have B:L2.BI mg:=by
   refine' L2.e1b KX G ?z_len ?z_range ?z_isinstance ?z_int ?z_bool ?z_list ?z_tuple ?z_str ?z_sum ?z_all ?z_max ?z_min ?z_sorted ?z_set ?z_zip ?z_enumerate ?z_reversed ?z_dict ?z_any ?z_abs
   (case z_len=>k_is);(case z_range=>k_is);(case z_isinstance=>k_is);(case z_int=>k_is);(case z_bool=>k_is);(case z_list=>k_is);(case z_tuple=>k_is);(case z_str=>k_is);(case z_sum=>k_is);(case z_all=>k_is);(case z_max=>k_is);(case z_min=>k_is);(case z_sorted=>k_is);(case z_set=>k_is);(case z_zip=>k_is);(case z_enumerate=>k_is);(case z_reversed=>k_is);(case z_dict=>k_is);(case z_any=>k_is);(case z_abs=>k_is)
  refine L2.z0i d_law hmg fun base=>?_
  exact K67.fin d_weight d_givens_of d_bound d_first_places d_classes_of d_givens_in d_unlike_number d_hang_number d_law_tape d_law_draw d_law_whole d_law_weight d_law_wish d_law_wider d_law_classes d_law_due d_law B
#print axioms PySem.Challenge.cw_fewjoins_k67_the_bound_holds

