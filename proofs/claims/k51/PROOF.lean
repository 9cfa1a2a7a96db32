import PyProof.Rows.All
import Wide.All
import OpenK.AllK
import Wide.FinOn
import Lean
import PyProof.EqAt
import PyProof.EqKinds
import PyProof.TupleCall
import PyProof.NeKinds
import PyProof.ListMulAny
import PyProof.Rows.CallKwBuiltin
import PyProof.MinMaxWalk
import PyProof.SeqI3
import PyProof.Rows.TupAdd
import PyProof.MeetsDict
import PyProof.DictList
import PyProof.ZipIter
import PyProof.Rows.ZipGen
import PyProof.ListRange
import PyProof.TupleOfStr
import PyProof.Rows.FStr
import PyProof.Rows.StrJoin2
import PyProof.Rows.Range3
import PyProof.EnumMake
import PyProof.EnumFor
import PyProof.EnumStmt
import KE.KUnpackStar
import KE.KDictList
import PyProof.Rows.SortWalk
import KE.RegKIsAll
import PyProof.NsDelKeeps
import PyProof.Rows.CountFlat
import KE.KRevIter
import PyProof.Draws
import PyProof.ExcInit
import PyProof.InstStoreFacts
import PyProof.DictCompW
import PyProof.DictIter
import PyProof.DictWalks
import PyProof.Rows.SetFrom
import PyProof.SetRoads
import KE.KDictOf
import PyProof.Rows.SortShellK
import PySem.Challenge.RW_fewjoins_k51_the_way_by_common_pairs
set_option Elab.async false
set_option linter.all false
set_option maxRecDepth 100000
namespace L2
open PySem PySem.Spec PyProof.Rows
abbrev Key:=Sum Int Str
def u0e:Key->Value->Bool
 | .inl k,v=>Value.isInt k v
 | .inr x,v=>Value.isStrOf x v
def keyH (w:World):Key->Int
 | .inl k=>hashInt k
 | .inr x=>hashStr w x
theorem c0h:∀ {k:Key} {v:Value},u0e k v=true->(∃i t,k=Sum.inl i/\v=Value.int i t)∨(∃x t,k=Sum.inr x/\v=Value.str x t)
 | .inl i,v,h=>by
  obtain⟨t,e⟩:=Value.isInt_shape (k:=i) (v:=v) h
  exact .inl ⟨i,t,rfl,e⟩
 | .inr x,v,h=>by
  obtain⟨t,e⟩:=Value.isStrOf_shape (x:=x) (v:=v) h
  exact .inr ⟨x,t,rfl,e⟩
theorem w0y (i:Int)(t:Tok):u0e (.inl i) (.int i t)=true:=by simp[u0e,Value.isInt]
theorem w0x (x:Str)(t:Tok):u0e (.inr x) (.str x t)=true:=by simp[u0e,Value.isStrOf]
theorem h1p (a b:Int):decide ((Sum.inl a:Key)=Sum.inl b)=(a==b):=by
 by_cases e:a=b
 ·subst e;simp
 ·have h:¬(Sum.inl a:Key)=Sum.inl b:=fun q=>e (Sum.inl.inj q)
  rw[decide_eq_false h]
  exact(beq_eq_false_iff_ne.mpr e).symm
theorem h1m (a b:Str):decide ((Sum.inr a:Key)=Sum.inr b)=decide (a=b):=by
 by_cases e:a=b
 ·subst e;simp
 ·have h:¬(Sum.inr a:Key)=Sum.inr b:=fun q=>e (Sum.inr.inj q)
  rw[decide_eq_false h,decide_eq_false e]
theorem h1o (a:Int)(b:Str):decide ((Sum.inl a:Key)=Sum.inr b)=false:=decide_eq_false (fun q=>nomatch q)
theorem h1n (a:Str)(b:Int):decide ((Sum.inr a:Key)=Sum.inl b)=false:=decide_eq_false (fun q=>nomatch q)
def c0g (prog:Program)(w:World):PySem.KeyKind prog w Key where
 is:=u0e
 hash:=keyH w
 inj:=fun v a b ha hb=>by
  rcases c0h ha with⟨i,t,rfl,rfl⟩ | ⟨x,t,rfl,rfl⟩
  ·rcases c0h hb with⟨j,u,rfl,e⟩ | ⟨y,u,rfl,e⟩
   ·injection e with e1 _;rw[e1]
   ·exact nomatch e
  ·rcases c0h hb with⟨j,u,rfl,e⟩ | ⟨y,u,rfl,e⟩
   ·exact nomatch e
   ·injection e with e1 _;rw[e1]
 byValue:=fun k v h=>by
  rcases c0h h with⟨i,t,rfl,rfl⟩ | ⟨x,t,rfl,rfl⟩ <;> rfl
 pyHash:=fun hv h=>by
  rcases c0h hv with⟨i,t,rfl,rfl⟩ | ⟨x,t,rfl,rfl⟩
  ·exact wpAny_pyHash_int h
  ·exact wpAny_pyHash_str h
 eqBool:=fun hu hv h=>by
  rcases c0h hu with⟨i,t,rfl,rfl⟩ | ⟨x,t,rfl,rfl⟩
  ·rcases c0h hv with⟨j,u,rfl,rfl⟩ | ⟨y,u,rfl,rfl⟩
   ·rw[h1p]at h;exact wpAny_eqBool_int h
   ·rw[h1o]at h;exact SeqAt.EqAt.int_str i t y u _ _ _ _ h
  ·rcases c0h hv with⟨j,u,rfl,rfl⟩ | ⟨y,u,rfl,rfl⟩
   ·rw[h1n]at h;exact SeqAt.EqAt.str_int x t j u _ _ _ _ h
   ·rw[h1m]at h;exact wpAny_eqBool_str h
 «strs»:=fun k x t v h=>by
  rcases c0h h with⟨i,u,rfl,e⟩ | ⟨y,u,rfl,e⟩
  ·exact nomatch e
  ·injection e with e1 _
   subst e1
   cases v <;> rfl
theorem r0e (prog:Program)(w:World)(i:Int)(t:Tok):(c0g prog w).is (.inl i) (.int i t)=true:=w0y i t
theorem r0d (prog:Program)(w:World)(x:Str)(t:Tok):(c0g prog w).is (.inr x) (.str x t)=true:=w0x x t
inductive V where
 | non | bl (b:Bool) | int (i:Int) | str (x:Str) | byt (b:Array UInt8) | flt (b:UInt64) | ref (a:Addr) | ty (n:String)
 deriving DecidableEq
def RelV:V->Value->Prop
 | .non,u=>u=Value.none
 | .bl b,u=>u=Value.bool b
 | .int i,u=>∃t,u=Value.int i t
 | .str x,u=>∃t,u=Value.str x t
 | .byt b,u=>∃t,u=Value.bytes b t
 | .flt b,u=>∃t,u=Value.float b t
 | .ref a,u=>u=Value.ref a
 | .ty n,u=>u=Value.type n
abbrev Vals:List V->List Value->Prop:=Paired RelV
theorem Vals.length {xs:List V}{us:List Value}(r:Vals xs us):xs.length=us.length:=Paired.length r
theorem Vals.get:∀ {xs:List V} {us:List Value} {i:Nat} {x:V},Vals xs us->xs[i]? = some x->∃u,us[i]? = some u/\RelV x u
 | _,_,_,_,.nil,e=>by simp at e
 | _,_,0,_,.cons r _,e=>by simp at e;subst e;exact⟨_,rfl,r⟩
 | _,_,i+1,x,.cons _ t,e=>by
  obtain⟨u,h1,h2⟩:=Vals.get (i:=i) (x:=x) t (by simpa using e)
  exact⟨u,by simpa using h1,h2⟩
theorem Vals.append:∀ {xs ys:List V} {us ws:List Value},Vals xs us->Vals ys ws->Vals (xs++ys) (us++ws)
 | _,_,_,_,.nil,s=>s
 | _,_,_,_,.cons r t,s=>.cons r (Vals.append t s)
theorem Vals.take:∀ {xs:List V} {us:List Value} (n:Nat),Vals xs us->Vals (xs.take n) (us.take n)
 | _,_,0,_=>.nil
 | _,_,_+1,.nil=>.nil
 | _,_,n+1,.cons r t=>.cons r (Vals.take n t)
theorem Vals.drop:∀ {xs:List V} {us:List Value} (n:Nat),Vals xs us->Vals (xs.drop n) (us.drop n)
 | _,_,0,r=>r
 | _,_,_+1,.nil=>.nil
 | _,_,n+1,.cons _ t=>Vals.drop n t
def RelO:Option V->Option Value->Prop
 | some v,some u=>RelV v u
 | none,none=>True
 | _,_=>False
def KV {κ:Type}:List (κ×V)->List (κ×Value)->Prop:=Paired fun(p:κ×V) (q:κ×Value)=>p.1=q.1/\RelV p.2 q.2
def kV:Key->V
 | .inl i=>.int i
 | .inr x=>.str x
inductive HO where
 | lst (xs:List V)
 | tup (xs:List V)
 | dK (kvs:List (Key×V)) | dT (kvs:List (List Key×V))
 | set (S:Int->Bool) (n:Nat)
 | ins (C dx:Addr) (fs:List (Str×V))
 | own (x:Addr)
 | xd (fs:List (Str×V))
 | met (f x:Addr)
 | rng (lo hi:Int)
 | frz (o:Obj) (u:HO)
 | tbl (ps:Array Value)
 | ext (φ:Heap->Prop)
abbrev Hp:=Addr->Option HO
def upd (H:Hp)(a:Addr)(o:HO):Hp:=fun b=>if b=a then some o else H b
theorem a0y {H:Hp}{a:Addr}{o:HO}:upd H a o a=some o:=by unfold upd;rw[if_pos rfl]
theorem a0o {H:Hp}{a b:Addr}{o:HO}(h:b≠a):upd H a o b=H b:=by unfold upd;rw[if_neg h]
theorem c1x {H:Hp}{a:Addr}{o u:HO}:upd (upd H a o) a u=upd H a u:=by
 funext b;unfold upd;split <;> rfl
theorem d1y {H:Hp}{a b:Addr}{o u:HO}(h:H a=some o)(h':H b=some u)(d:o≠u):a≠b:=by
 intro e;subst e;rw[h]at h';exact d (Option.some.inj h')
theorem b0b {H:Hp}{a b:Addr}{o:HO}(h:H a=some o)(h':H b=none):a≠b:=by
 intro e;subst e;rw[h]at h';cases h'
section
variable (P:Program)(w:World)
def c0s (H:Hp)(h:Heap)(a:Addr):HO->Prop
 | .lst xs=>xs.length<=sizeLine/\∃(its:List Value) (n:Nat),Vals xs its/\h.get? a=some {cls:=.type "list",data:=.seq its.toArray n}
 | .tup xs=>xs.length<=sizeLine/\∃its:List Value,Vals xs its/\IsTup h a its.toArray
 | .dK kvs=>kvs.length<=sizeLine/\(a==sysModules)=false/\∃vs,KV kvs vs/\h.DictOf (c0g P w) a vs
 | .dT kvs=>kvs.length<=sizeLine/\(a==sysModules)=false/\∃xs:List (List Key×Addr×Value),
   Paired (fun(p:List Key×V) (q:List Key×Addr×Value)=>p.1=q.1/\H q.2.1=some (.tup (p.1.map kV))/\RelV p.2 q.2.2) kvs xs /\
   ∃o es ep,h.get? a=some o/\o.ExactDict/\o.data = .dict es ep/\es.toList=xs.map (entryOfKey (tupleKind (c0g P w)))/\(xs.map (·.1)).Nodup
 | .set S n=>h.SetOf (intKind P w) a S n
 | .ins C dx fs=>H dx=some (.own a)/\fs.length<=1000/\dx≠a/\h.get? a=some (PySem.W.instObj C dx) /\
   ∃mA,h.Ns1 dx mA/\(∀f,RelO (fs.lookup f) (mA f))/\PySem.Within mA (fs.map (·.1))
 | .own _=>∃o,h.get? a=some o
 | .xd fs=>∃mA,h.Ns1 a mA/\∀f,RelO (fs.lookup f) (mA f)
 | .rng lo hi=>∃t u v,h.get? a=some {cls:=.type "range",data:=.fields #[.int lo t,.int hi u,.int 1 v]}
 | .frz o u=>h.get? a=some o/\c0s H h a u
 | .tbl ps=>h.get? a=some {cls:=.none,data:=.fields ps}
 | .met f x=>h.get? a=some (PySem.W.methodObj (.ref f) (.ref x))
 | .ext φ=>φ h/\(∃o,h.get? a=some o)/\∀h1 h2:Heap,φ h1->(∀o,h1.get? a=some o->h2.get? a=some o)->φ h2
def HOk (H:Hp)(h:Heap):Prop:=∀a o,H a=some o->c0s P w H h a o
end
section
variable {P:Program}{w:World}{H H':Hp}{h h':Heap}{a:Addr}{o:HO}
theorem c0s.lt (x:c0s P w H h a o):a<h.objs.size:=by
 cases o with
 | lst xs=>obtain⟨_,_,_,_,e⟩:=x;exact Heap.lt_size e
 | tup xs=>obtain⟨_,_,_,p⟩:=x;exact p.lt
 | dK kvs=>obtain⟨_,_,_,_,o,_,_,e,_⟩:=x;exact Heap.lt_size e
 | dT kvs=>obtain⟨_,_,_,_,o,_,_,e,_⟩:=x;exact Heap.lt_size e
 | set S n=>obtain⟨o,_,_,_,e,_⟩:=x;exact Heap.lt_size e
 | ins C dx fs=>obtain⟨_,_,_,e,_⟩:=x;exact Heap.lt_size e
 | own y=>obtain⟨_,e⟩:=x;exact Heap.lt_size e
 | xd fs=>obtain⟨_,⟨_,_,_,e,_⟩,_⟩:=x;exact Heap.lt_size e
 | rng lo hi=>obtain⟨_,_,_,e⟩:=x;exact Heap.lt_size e
 | frz ob u=>obtain⟨e,_⟩:=x;exact Heap.lt_size e
 | tbl ps=>exact Heap.lt_size (show h.get? a=some _ from x)
 | met f y=>exact Heap.lt_size (show h.get? a=some _ from x)
 | ext φ=>obtain⟨_,⟨_,e⟩,_⟩:=x;exact Heap.lt_size e
theorem Paired.mapP {α β:Type}{F G:α->β->Prop}:∀ {l₁:List α} {l₂:List β},Paired F l₁ l₂->(∀a b,F a b->G a b)->Paired G l₁ l₂
 | _,_,.nil,_=>.nil
 | _,_,.cons r t,f=>.cons (f _ _ r) (Paired.mapP t f)
theorem c0s.stay (x:c0s P w H h a o)(k:∀b u,(b=a∨H b=some (.own a))->h.get? b=some u->h'.get? b=some u)
  (ho:∀b,H b=some (.own a)->H' b=some (.own a)) (ht:∀b xs,H b=some (.tup xs)->H' b=some (.tup xs)):c0s P w H' h' a o:=by
 induction o with
 | lst xs=>obtain⟨z,its,n,r,e⟩:=x;exact⟨z,its,n,r,k _ _ (.inl rfl) e⟩
 | tup xs=>obtain⟨z,its,r,ob,e,c⟩:=x;exact⟨z,its,r,ob,k _ _ (.inl rfl) e,c⟩
 | dK kvs=>obtain⟨z,y,vs,r,ob,es,ep,e,c⟩:=x;exact⟨z,y,vs,r,ob,es,ep,k _ _ (.inl rfl) e,c⟩
 | dT kvs =>
  obtain⟨z,y,xs,r,ob,es,ep,e,c⟩:=x
  exact⟨z,y,xs,Paired.mapP r fun p q z=>⟨z.1,ht _ _ z.2.1,z.2.2⟩,ob,es,ep,k _ _ (.inl rfl) e,c⟩
 | set S n=>obtain⟨ob,es,ep,t,e,c⟩:=x;exact⟨ob,es,ep,t,k _ _ (.inl rfl) e,c⟩
 | ins C dx fs =>
  obtain⟨d,z,ne,e,mA,⟨od,es,ep,e2,c⟩,r⟩:=x
  exact⟨ho _ d,z,ne,k _ _ (.inl rfl) e,mA,⟨od,es,ep,k _ _ (.inr d) e2,c⟩,r⟩
 | own y=>obtain⟨ob,e⟩:=x;exact⟨ob,k _ _ (.inl rfl) e⟩
 | xd fs=>obtain⟨mA,⟨od,es,ep,e,c⟩,r⟩:=x;exact⟨mA,⟨od,es,ep,k _ _ (.inl rfl) e,c⟩,r⟩
 | rng lo hi=>obtain⟨t,u,v,e⟩:=x;exact⟨t,u,v,k _ _ (.inl rfl) e⟩
 | frz ob u ih=>obtain⟨e,q⟩:=x;exact⟨k _ _ (.inl rfl) e,ih q⟩
 | tbl ps =>
  have e:h.get? a=some {cls:=.none,data:=.fields ps}:=x
  show h'.get? a=some {cls:=.none,data:=.fields ps}
  exact k a _ (.inl rfl) e
 | met f y =>
  have e:h.get? a=some (PySem.W.methodObj (.ref f) (.ref y)):=x
  show h'.get? a=some (PySem.W.methodObj (.ref f) (.ref y))
  exact k a _ (.inl rfl) e
 | ext φ=>obtain⟨p,⟨o,e⟩,st⟩:=x;exact⟨st _ _ p fun o q=>k _ _ (.inl rfl) q,⟨o,k _ _ (.inl rfl) e⟩,st⟩
theorem HOk.lt (x:HOk P w H h)(e:H a=some o):a<h.objs.size:=(x a o e).lt
theorem HOk.fresh (x:HOk P w H h)(e:h.objs.size<=a):H a=none:=by
 cases q:H a with
 | none=>rfl
 | some u=>exact absurd (Nat.lt_of_lt_of_le (x.lt q) e) (Nat.lt_irrefl _)
theorem HOk.kept (x:HOk P w H h)(k:∀b u,h.get? b=some u->h'.get? b=some u):HOk P w H h':=fun a o e =>
 (x a o e).stay (fun b u _ q=>k b u q) (fun _ q=>q) fun _ _ q=>q
theorem HOk.laid (x:HOk P w H h)(k:∀b u,h.get? b=some u->h'.get? b=some u)(hp:h.objs.size<=a)(new:c0s P w (upd H a o) h' a o):HOk P w (upd H a o) h':=fun b u e=>by
 have hn:=x.fresh hp
 by_cases hb:b=a
 ·subst hb;rw[a0y]at e;cases e;exact new
 ·rw[a0o hb]at e
  exact(x b u e).stay (fun c v _ q=>k c v q) (fun c q=>by rw[a0o (b0b q hn)];exact q) fun c xs q=>by rw[a0o (b0b q hn)];exact q
end
def Rd (H:Hp)(a:Addr)(u:HO):Prop:=H a=some u ∨ ∃o,H a=some (.frz o u)
theorem Rd.ok {P:Program}{w:World}{H:Hp}{h:Heap}{a:Addr}{u:HO}(r:Rd H a u)(x:HOk P w H h):c0s P w H h a u:=by
 rcases r with r | ⟨o,r⟩
 ·exact x a u r
 ·obtain⟨_,q⟩:=x a _ r
  exact q
def Mut:Option HO->Prop
 | some (.lst _)=>True
 | some (.dK _)=>True
 | some (.dT _)=>True
 | some (.set _ _)=>True
 | some (.ins _ _ _)=>True
 | some (.ext _)=>True
 | _=>False
section
variable {P:Program}{w:World}{H:Hp}{h h':Heap}{x e:Addr}{o':HO}
theorem HOk.write (ok:HOk P w H h)(mu:Mut (H x))(he:e=x∨H e=some (.own x))(k:∀b u,b≠e->h.get? b=some u->h'.get? b=some u)(heo:∃u,h'.get? e=some u)
  (new:c0s P w (upd H x o') h' x o'):HOk P w (upd H x o') h':=fun b u q=>by
 have nown:∀c y,H c=some (.own y)->c≠x:=fun c y r z=>by subst z;rw[r]at mu;exact mu
 have ntup:∀c xs,H c=some (.tup xs)->c≠x:=fun c xs r z=>by subst z;rw[r]at mu;exact mu
 by_cases hb:b=x
 ·subst hb;rw[a0y]at q;cases q;exact new
 ·rw[a0o hb]at q
  by_cases hbe:b=e
  ·have q':H b=some (.own x):=by
    rcases he with z | z
    ·exact absurd (hbe.trans z) hb
    ·rw[hbe];exact z
   rw[q]at q';cases q'
   obtain⟨v,hv⟩:=heo
   exact⟨v,by rw[hbe];exact hv⟩
  ·refine(ok b u q).stay (fun c v hc r=>k c v ?_ r) (fun c r=>by rw[a0o (nown c b r)];exact r) fun c xs r=>by rw[a0o (ntup c xs r)];exact r
   rcases hc with rfl | hc
   ·exact hbe
   ·rintro rfl
    rcases he with z | z
    ·exact nown c b hc z
    ·rw[hc]at z;cases z;exact hb rfl
end
structure Un (fs ex:List Addr)(H H':Hp)(h h':Heap):Prop where
 keep:∀b o,h.get? b=some o->H b=none->b∉fs->b∉ex->h'.get? b=some o
 slot:∀b o,h.get? b=some o->H b=none->b∈fs->b∉ex->∃sl,h'.get? b=some {o with slots:=sl}
 free:∀b o,h.get? b=some o->H b=none->b∉ex->H' b=none
 there:∀b o,h.get? b=some o->b∉ex->∃o',h'.get? b=some o'
 tups:∀b xs,H b=some (.tup xs)->H' b=some (.tup xs)
 frzs:∀b o u,H b=some (.frz o u)->H' b=some (.frz o u)
 tbls:∀b ps,H b=some (.tbl ps)->∃more,H' b=some (.tbl (ps++more))
section
variable {fs fs' ex ex':List Addr}{H H1 H2:Hp}{h h1 h2 h':Heap}{a x e:Addr}{o:HO}
theorem Un.any (u:Un fs ex H H1 h h1){b:Addr}{ob:Obj}(q:h.get? b=some ob)(n:H b=none)(hx:b∉ex):∃sl,h1.get? b=some {ob with slots:=sl}:=by
 by_cases hb:b∈fs
 ·exact u.slot b ob q n hb hx
 ·exact⟨ob.slots,u.keep b ob q n hb hx⟩
theorem Un.kept (k:∀b u,h.get? b=some u->h'.get? b=some u):Un fs ex H H h h' :=
 ⟨fun b ob q _ _ _=>k b ob q,fun b ob q _ _ _=>⟨ob.slots,k b ob q⟩,fun _ _ _ n _=>n,fun b ob q _=>⟨ob,k b ob q⟩,fun _ _ q=>q,fun _ _ _ q=>q,fun _ ps q=>⟨#[],by rw[q];simp⟩⟩
theorem Un.refl:Un fs ex H H h h:=Un.kept fun _ _ q=>q
theorem Un.laid (k:∀b u,h.get? b=some u->h'.get? b=some u)(hp:h.objs.size<=a)(hn:H a=none):Un fs ex H (upd H a o) h h' where
 keep:=fun b u q _ _ _=>k b u q
 slot:=fun b u q _ _ _=>⟨u.slots,k b u q⟩
 free:=fun b u q n _=>by rw[a0o (Nat.ne_of_lt (Nat.lt_of_lt_of_le (Heap.lt_size q) hp))];exact n
 there:=fun b u q _=>⟨u,k b u q⟩
 tups:=fun b xs q=>by rw[a0o (b0b q hn)];exact q
 frzs:=fun b u xs q=>by rw[a0o (b0b q hn)];exact q
 tbls:=fun b ps q=>⟨#[],by rw[a0o (b0b q hn),q];simp⟩
theorem Un.write (mu:Mut (H x))(he:e=x∨H e=some (.own x))(k:∀b u,b≠e->h.get? b=some u->h'.get? b=some u)(heo:∃u,h'.get? e=some u):Un fs ex H (upd H x o) h h':=by
 have hx:∀b,H b=none->b≠x:=fun b n z=>by subst z;rw[n]at mu;exact mu
 have hb:∀b,H b=none->b≠e:=fun b n z=>by
  subst z
  rcases he with r | r
  ·exact hx b n r
  ·rw[n]at r;cases r
 have hm:∀b u,H b=some u->¬Mut (some u)->b≠x:=fun b u q nm z=>by subst z;rw[q]at mu;exact nm mu
 refine⟨fun b u q n _ _=>k b u (hb b n) q,fun b u q n _ _=>⟨u.slots,k b u (hb b n) q⟩,fun b u q n _=>by rw[a0o (hx b n)];exact n,fun b u q _=>?_,
  fun b xs q=>by rw[a0o (hm b _ q fun z=>z)];exact q,fun b u xs q=>by rw[a0o (hm b _ q fun z=>z)];exact q,fun b ps q=>⟨#[],by rw[a0o (hm b _ q fun z=>z),q];simp⟩⟩
 by_cases hbe:b=e
 ·subst hbe;exact heo
 ·exact⟨u,k b u hbe q⟩
end
def trk (h:Heap)(H:Hp):List Addr:=(List.range h.objs.size).filter fun a=>(H a).isSome
def hidT (h:Heap)(H:Hp):Heap:=PySem.W.hideAll h (trk h H)
theorem x0h (h:Heap)(H:Hp):(hidT h H).objs.size=h.objs.size:=PySem.W.hideAll_size _ _
theorem a1c {h:Heap}{H:Hp}{b:Addr}{o:Obj}(e:h.get? b=some o)(n:H b=none):(hidT h H).get? b=some o :=
 PySem.W.hideAll_get _ e fun hm=>by
  have q:(H b).isSome=true:=(List.mem_filter.mp hm).2
  rw[n]at q;simp at q
theorem d1w {h:Heap}{H:Hp}{b:Addr}{o:Obj}(e:(hidT h H).get? b=some o):h.get? b=some o/\H b=none:=by
 have e':h.get? b=some o:=PySem.W.of_hideAll (trk h H) e
 refine⟨e',?_⟩
 cases q:H b with
 | none=>rfl
 | some x =>
  have hm:b∈trk h H:=List.mem_filter.mpr ⟨List.mem_range.mpr (Heap.lt_size e'),by simp[q]⟩
  have z:(hidT h H).get? b=none:=PySem.W.hideAll_none (trk h H) hm
  rw[z]at e;cases e
structure Mod (K:PySem.W.Frag)(mg:Str->Option Value)(base:Heap):Prop where
 kin:K.In base
 glob:base.Ns mainGlobals mg
 blt:∃mb,base.Ns builtinsNs mb/\∀x:Str,x ≠ "__name__" -> mb x=bootBuiltins x
 nolimit:base.NoLimit
structure Cx where
 prog:Program
 w:World
 K:PySem.W.Frag
 mg:Str->Option Value
 base:Heap
 A:Around
 N:List Str
 s₀:Shared
 H₀:Hp
 env:Env
 outer:List Env
 stack:List Env
 ex:List Addr
 fn:Str->Bool
 calm:Bool
 pn:List (Addr×Obj)
 xe:Value->Shared->Prop
def frs (l:List Env):List Addr:=l.filterMap (·.frame)
abbrev Cx.fs (X:Cx):List Addr:=frs X.outer
def Vis (sc:Scope)(x:Str):Prop:=sc.names.lookup x=some .local∨sc.names.lookup x=some .cell∨sc.names.lookup x=some .free
def Loc (sc:Scope)(x:Str):Prop:=sc.names.lookup x=some .local∨sc.names.lookup x=some .cell
def Look (env:Env)(h:Heap)(m:Str->Option Value)(x:Str)(u:Value):Prop :=
 (env.kindOf x=some .local/\m x=some u)∨((env.kindOf x=some .cell∨env.kindOf x=some .free)/\∃c,env.cells.lookup x=some c/\h.IsCell c (some u))
structure Cx.Ok (X:Cx):Prop where
 mod:Mod X.K X.mg X.base
 kind:X.env.scope.kind = .function
 glob:X.env.globals=mainGlobals
 blt:X.env.builtins=builtinsNs
 above:X.s₀.heap.objs.size<=X.env.locals
 inj:∀x y c,X.env.cells.lookup x=some c->X.env.cells.lookup y=some c->x=y
 has:∀x,(X.env.kindOf x=some .cell∨X.env.kindOf x=some .free)->∃c,X.env.cells.lookup x=some c
 cab:∀x c,X.fn x=true->X.env.cells.lookup x=some c->X.s₀.heap.objs.size<=c
 hd:X.calm=true->X.A.handled=none
 frames:X.A.frames=some X.stack
 stk:X.stack=X.outer∨(X.stack=X.env::X.outer/\X.env.frame=some X.env.locals)
 exf:∀b∈X.ex,b≠X.env.locals/\∀x c,X.env.cells.lookup x=some c->c≠b
 bs:∀b o,X.base.get? b=some o->X.s₀.heap.get? b=some o/\X.H₀ b=none
 bsz:X.base.objs.size<=X.s₀.heap.objs.size
 noex:∀b o,X.base.get? b=some o->b∉X.ex
 exfs:∀b∈X.ex,b∉X.fs
 funs:X.s₀.heap.FunFrames X.base X.outer
 frf:∀b∈X.fs,X.H₀ b=none
structure Inv (X:Cx)(pins:List (Addr×Obj))(σ:List (Option V))(H:Hp)(s:Shared):Prop where
 ok:X.Ok
 os:s.os=X.s₀.os
 bare:AllBare s.gens
 base:Un X.fs X.ex X.H₀ H X.s₀.heap s.heap
 loc:∃m,s.heap.Ns X.env.locals m/\∀(i:Nat) (x:Str) (v:V),X.N[i]? = some x->σ[i]? = some (some v)->Vis X.env.scope x->∃u,RelV v u/\Look X.env s.heap m x u
 cell:∀x c,X.env.cells.lookup x=some c->∃v,s.heap.IsCell c v
 free:H X.env.locals=none
 freeC:∀x c,X.env.cells.lookup x=some c->H c=none
 pin:∀p∈X.pn++pins,s.heap.get? p.1=some p.2/\H p.1=none/\p.1≠X.env.locals/\p.1∉X.fs/\∀v,p.2.data ≠ .cell v
 hok:HOk X.prog X.w H s.heap
 len:σ.length=X.N.length
section
variable {X:Cx}{pins:List (Addr×Obj)}{σ:List (Option V)}{H H':Hp}{s:Shared}{h':Heap}
theorem Cx.Ok.nofr (ok:X.Ok){b:Addr}{o:Obj}(e:X.base.get? b=some o):b∉X.fs:=fun hb=>by
 have:=(ok.funs.mem hb).1
 rw[e]at this;cases this
theorem Inv.bs (I:Inv X pins σ H s):∀b o,X.base.get? b=some o->s.heap.get? b=some o/\H b=none:=fun b o e =>
 ⟨I.base.keep b o (I.ok.bs b o e).1 (I.ok.bs b o e).2 (I.ok.nofr e) (I.ok.noex b o e),I.base.free b o (I.ok.bs b o e).1 (I.ok.bs b o e).2 (I.ok.noex b o e)⟩
theorem Inv.bk (I:Inv X pins σ H s):∀b o,X.base.get? b=some o->s.heap.get? b=some o:=fun b o e=>(I.bs b o e).1
theorem Inv.mod (I:Inv X pins σ H s):Mod X.K X.mg X.base:=I.ok.mod
theorem Inv.kIn (I:Inv X pins σ H s):X.K.In s.heap:=I.ok.mod.kin.keeps I.bk
theorem Inv.fr (I:Inv X pins σ H s):∃m,Fr X.base X.env.locals s.heap m :=
 let ⟨m,hn,_⟩:=I.loc
 ⟨m,hn,I.bk,Nat.le_trans I.ok.bsz I.ok.above⟩
theorem Inv.lt (I:Inv X pins σ H s):X.env.locals<s.heap.objs.size:=let ⟨_,hn,_⟩:=I.loc;hn.lt
theorem Inv.sz (I:Inv X pins σ H s):X.s₀.heap.objs.size<=s.heap.objs.size:=Nat.le_trans I.ok.above (Nat.le_of_lt I.lt)
theorem Inv.nofs (I:Inv X pins σ H s){a:Addr}(h:s.heap.objs.size<=a):a∉X.fs:=fun hb=>by
 obtain⟨_,o,ho,_⟩:=I.ok.funs.mem hb
 exact absurd (Nat.lt_of_lt_of_le (Heap.lt_size ho) (Nat.le_trans I.sz h)) (Nat.lt_irrefl _)
theorem Inv.cne (I:Inv X pins σ H s):∀x c,X.env.cells.lookup x=some c->c≠X.env.locals:=fun x c e z=>by
 obtain⟨v,o,ho,hd⟩:=I.cell x c e
 obtain⟨m,⟨o',es,ep,ho',hd',_⟩,_⟩:=I.loc
 rw[z,ho']at ho;cases ho;rw[hd']at hd;cases hd
theorem Inv.funs (I:Inv X pins σ H s):s.heap.FunFrames X.base X.outer:=by
 have all:∀(l:List Env),(∀b∈frs l,b∈X.fs)->X.s₀.heap.FunFrames X.base l->s.heap.FunFrames X.base l:=by
  intro l
  induction l with
  | nil=>intro _ _;trivial
  | cons env r ih =>
   intro hs hl
   obtain⟨hk,⟨L,o,hf,hn,ho,hd⟩,hr⟩:=hl
   have hL:L∈X.fs:=hs L (by unfold frs;rw[List.filterMap_cons,hf];exact List.mem_cons_self)
   obtain⟨sl,e⟩:=I.base.slot L o ho (I.ok.frf L hL) hL fun z=>I.ok.exfs L z hL
   exact⟨hk,⟨L,_,hf,hn,e,hd⟩,ih (fun b hb=>hs b (by unfold frs;rw[List.filterMap_cons,hf];exact List.mem_cons_of_mem _ hb)) hr⟩
 exact all X.outer (fun _ hb=>hb) I.ok.funs
theorem Inv.stack (I:Inv X pins σ H s):s.heap.FunFrames X.base X.stack:=by
 rcases I.ok.stk with e | ⟨e,hf⟩
 ·rw[e];exact I.funs
 ·rw[e]
  obtain⟨m,hn,_⟩:=I.loc
  refine .cons (by rw[I.ok.kind];decide) hf hn ?_ I.funs
  exact Heap.get?_none_of_le (Nat.le_trans I.ok.bsz I.ok.above)
theorem Inv.stkSub (I:Inv X pins σ H s):∀b∈frs X.stack,b∈X.env.locals::X.fs:=fun b hb=>by
 rcases I.ok.stk with e | ⟨e,hf⟩
 ·rw[e]at hb;exact List.mem_cons_of_mem _ hb
 ·rw[e]at hb
  unfold frs at hb
  rw[List.filterMap_cons,hf]at hb
  exact hb
theorem Inv.stkFree (I:Inv X pins σ H s):∀b∈frs X.stack,H b=none:=fun b hb=>by
 rcases List.mem_cons.mp (I.stkSub b hb)with e | hb
 ·rw[e];exact I.free
 ·obtain⟨_,o,ho,_⟩:=I.ok.funs.mem hb
  exact I.base.free b o ho (I.ok.frf b hb) fun z=>I.ok.exfs b z hb
theorem Inv.step {g':Array GenState}{t':Nat}{d':Drawn}{ch:List Addr}(I:Inv X pins σ H s)
  (hch:∀b∈ch,(b∈X.ex∨X.s₀.heap.objs.size<=b)/\b≠X.env.locals/\(∀x c,X.env.cells.lookup x=some c->c≠b)/\∀p∈X.pn++pins,p.1≠b)
  (keep:∀b o,b≠X.env.locals->b∉X.fs->b∉ch->s.heap.get? b=some o->H b=none->h'.get? b=some o)
  (slot:∀b o,b≠X.env.locals->b∈X.fs->b∉ch->s.heap.get? b=some o->H b=none->∃sl,h'.get? b=some {o with slots:=sl}) (free:∀b o,b∉ch->s.heap.get? b=some o->H b=none->H' b=none)
  (there:∀b o,b∉ch->s.heap.get? b=some o->∃o',h'.get? b=some o')
  (tups:∀b xs,H b=some (.tup xs)->H' b=some (.tup xs)) (frzs:∀b o u,H b=some (.frz o u)->H' b=some (.frz o u)) (tbls:∀b ps,H b=some (.tbl ps)->∃more,H' b=some (.tbl (ps++more)))
  (ns:∀m,s.heap.Ns X.env.locals m->h'.Ns X.env.locals m) (hok:HOk X.prog X.w H' h') (hg:AllBare g') :
  Inv X pins σ H' {s with heap:=h',gens:=g',drawn:=d',toks:=t'}:=by
 have neL:∀b o,X.s₀.heap.get? b=some o->b≠X.env.locals:=fun b o e=>Nat.ne_of_lt (Nat.lt_of_lt_of_le (Heap.lt_size e) I.ok.above)
 have neC:∀b o,X.s₀.heap.get? b=some o->b∉X.ex->b∉ch:=fun b o e hx hb=>by
  rcases(hch b hb).1 with z | z
  ·exact hx z
  ·exact absurd (Nat.lt_of_lt_of_le (Heap.lt_size e) z) (Nat.lt_irrefl _)
 have cellK:∀x c,X.env.cells.lookup x=some c->∀v,s.heap.IsCell c v->h'.IsCell c v:=fun x c e v ⟨o,ho,hd⟩=>by
  have nch:c∉ch:=fun z=>(hch c z).2.2.1 x c e rfl
  by_cases hc:c∈X.fs
  ·obtain⟨sl,q⟩:=slot c o (I.cne x c e) hc nch ho (I.freeC x c e)
   exact⟨_,q,hd⟩
  ·exact⟨o,keep c o (I.cne x c e) hc nch ho (I.freeC x c e),hd⟩
 refine⟨I.ok,I.os,hg,⟨fun b o e n hb hx=>?_,fun b o e n hb hx=>?_,fun b o e n hx=>?_,fun b o e hx=>?_,fun b xs e=>tups b xs (I.base.tups b xs e),fun b o xs e=>frzs b o xs (I.base.frzs b o xs e),fun b ps e=>?_⟩,?_,fun x c e=>?_,?_,fun x c e=>?_,fun p hp=>?_,hok,I.len⟩
 ·exact keep b o (neL b o e) hb (neC b o e hx) (I.base.keep b o e n hb hx) (I.base.free b o e n hx)
 ·obtain⟨sl,e1⟩:=I.base.slot b o e n hb hx
  obtain⟨sl',e2⟩:=slot b _ (neL b o e) hb (neC b o e hx) e1 (I.base.free b o e n hx)
  exact⟨sl',e2⟩
 ·obtain⟨o',e1⟩:=I.base.there b o e hx
  exact free b o' (neC b o e hx) e1 (I.base.free b o e n hx)
 ·obtain⟨o',e1⟩:=I.base.there b o e hx
  exact there b o' (neC b o e hx) e1
 ·obtain⟨m1,e1⟩:=I.base.tbls b ps e
  obtain⟨m2,e2⟩:=tbls b _ e1
  exact⟨m1++m2,by rw[e2,Array.append_assoc]⟩
 ·obtain⟨m,hn,hl⟩:=I.loc
  refine⟨m,ns m hn,fun i x v e1 e2 e3=>?_⟩
  obtain⟨u,r,l⟩:=hl i x v e1 e2 e3
  refine⟨u,r,?_⟩
  rcases l with l | ⟨k,c,e,z⟩
  ·exact .inl l
  ·exact .inr ⟨k,c,e,cellK x c e _ z⟩
 ·obtain⟨v,z⟩:=I.cell x c e
  exact⟨v,cellK x c e v z⟩
 ·obtain⟨m,⟨o,_,_,ho,_⟩,_⟩:=I.loc
  exact free _ o (fun z=>(hch _ z).2.1 rfl) ho I.free
 ·obtain⟨v,o,ho,hd⟩:=I.cell x c e
  exact free c o (fun z=>(hch c z).2.2.1 x c e rfl) ho (I.freeC x c e)
 ·obtain⟨e,n,ne,nf,d⟩:=I.pin p hp
  have nch:p.1∉ch:=fun z=>(hch p.1 z).2.2.2 p hp rfl
  exact⟨keep p.1 p.2 ne nf nch e n,free p.1 p.2 nch e n,ne,nf,d⟩
theorem Inv.un {t':Nat}(I:Inv X pins σ H s)(u:Un X.fs [] H H' s.heap h')(hok:HOk X.prog X.w H' h'):Inv X pins σ H' {s with heap:=h',toks:=t'}:=by
 obtain⟨m,⟨o,es,ep,ho,r⟩,_⟩:=id I.loc
 obtain⟨sl,hL⟩:=u.any ho I.free (by simp)
 exact I.step (g':=s.gens) (d':=s.drawn) (ch:=[]) (fun _ z=>nomatch z) (fun b o _ hb _ e n=>u.keep b o e n hb (by simp)) (fun b o _ hb _ e n=>u.slot b o e n hb (by simp)) (fun b o _ e n=>u.free b o e n (by simp)) (fun b o _ e=>u.there b o e (by simp)) u.tups u.frzs u.tbls (fun m' hm=>by
  obtain⟨o',es',ep',ho',r'⟩:=hm
  rw[ho]at ho';cases ho'
  exact⟨_,es',ep',hL,r'⟩) hok I.bare
theorem Inv.call {g':Array GenState}{t':Nat}{d':Drawn}{ch:List Addr}(I:Inv X pins σ H s)(u:Un (frs X.stack) ch H H' s.heap h')(hok:HOk X.prog X.w H' h')(hg:AllBare g')
  (hch:∀b∈ch,(b∈X.ex∨X.s₀.heap.objs.size<=b)/\b≠X.env.locals/\(∀x c,X.env.cells.lookup x=some c->c≠b)/\∀p∈X.pn++pins,p.1≠b) :
  Inv X pins σ H' {s with heap:=h',gens:=g',drawn:=d',toks:=t'}:=by
 obtain⟨m,⟨o,es,ep,ho,r⟩,_⟩:=id I.loc
 obtain⟨sl,hL⟩:=u.any ho I.free fun z=>(hch _ z).2.1 rfl
 exact I.step (ch:=ch) hch (fun b o hL hb hc e n=>u.keep b o e n (fun z=>(List.mem_cons.mp (I.stkSub b z)).elim hL hb) hc) (fun b o _ _ hc e n=>u.any e n hc) (fun b o hc e n=>u.free b o e n hc) (fun b o hc e=>u.there b o e hc) u.tups u.frzs u.tbls (fun m' hm=>by
  obtain⟨o',es',ep',ho',r'⟩:=hm
  rw[ho]at ho';cases ho'
  exact⟨_,es',ep',hL,r'⟩) hok hg
theorem Inv.turned {t':Nat}{it:Addr}(I:Inv X pins σ H s)(k:∀b o,b≠it->s.heap.get? b=some o->h'.get? b=some o)(hn:H it=none)(hL:it≠X.env.locals)
  (h1:it∈X.ex∨X.s₀.heap.objs.size<=it) (h2:∀x c,X.env.cells.lookup x=some c->c≠it) (h3:∀p∈X.pn++pins,p.1≠it):Inv X pins σ H {s with heap:=h',toks:=t'}:=by
 have nit:∀b u,H b=some u->b≠it:=fun b u e z=>by rw[z,hn]at e;cases e
 refine I.step (g':=s.gens) (d':=s.drawn) (ch:=[it]) (fun b hb=>?_) (fun b o _ _ hc e _=>k b o (fun z=>hc (by simp[z])) e) (fun b o _ _ hc e _=>⟨o.slots,k b o (fun z=>hc (by simp[z])) e⟩) (fun _ _ _ _ n=>n)
  (fun b o hc e=>⟨o,k b o (fun z=>hc (by simp[z])) e⟩) (fun _ _ e=>e) (fun _ _ _ e=>e) (fun b ps e=>⟨#[],by rw[e];simp⟩) (fun m hm=>?_) (fun b u e=>?_) I.bare
 ·have e:b=it:=by simpa using hb
  subst e
  exact⟨h1,hL,h2,h3⟩
 ·obtain⟨o,es,ep,ho,r⟩:=hm
  exact⟨o,es,ep,k _ o (Ne.symm hL) ho,r⟩
 ·refine(I.hok b u e).stay (fun c v hc q=>k c v ?_ q) (fun _ q=>q) fun _ _ q=>q
  rcases hc with z | z
  ·rw[z];exact nit b u e
  ·exact nit c _ z
theorem Inv.tok (I:Inv X pins σ H s)(t:Nat):Inv X pins σ H {s with toks:=t}:=I.un (h':=s.heap) (t':=t) Un.refl I.hok
theorem Inv.kept {t':Nat}(I:Inv X pins σ H s)(k:∀b u,s.heap.get? b=some u->h'.get? b=some u):Inv X pins σ H {s with heap:=h',toks:=t'}:=I.un (Un.kept k) (I.hok.kept k)
theorem Inv.laid {a:Addr}{o:HO}{t':Nat}(I:Inv X pins σ H s)(k:∀b u,s.heap.get? b=some u->h'.get? b=some u)(hp:s.heap.objs.size<=a)(new:c0s X.prog X.w (upd H a o) h' a o) :
  Inv X pins σ (upd H a o) {s with heap:=h',toks:=t'}:=I.un (Un.laid k hp (I.hok.fresh hp)) (I.hok.laid k hp new)
theorem Inv.write {x e:Addr}{o:HO}{t':Nat}(I:Inv X pins σ H s)(mu:Mut (H x))(he:e=x∨H e=some (.own x))(k:∀b u,b≠e->s.heap.get? b=some u->h'.get? b=some u)(heo:∃u,h'.get? e=some u)
  (new:c0s X.prog X.w (upd H x o) h' x o):Inv X pins σ (upd H x o) {s with heap:=h',toks:=t'}:=I.un (Un.write mu he k heo) (I.hok.write mu he k heo new)
theorem Inv.weak {σ':List (Option V)}(I:Inv X pins σ H s)(hl:σ'.length=σ.length)(w:∀(i:Nat) v,σ'[i]? = some (some v)->σ[i]? = some (some v)):Inv X pins σ' H s :=
 ⟨I.ok,I.os,I.bare,I.base,let ⟨m,hn,hl'⟩:=I.loc;⟨m,hn,fun i x v e1 e2 e3=>hl' i x v e1 (w i v e2) e3⟩,I.cell,I.free,I.freeC,I.pin,I.hok,hl.trans I.len⟩
theorem Inv.pins_of {pins':List (Addr×Obj)}(I:Inv X pins σ H s)(h:∀p∈pins',s.heap.get? p.1=some p.2/\H p.1=none/\p.1≠X.env.locals/\p.1∉X.fs/\∀v,p.2.data ≠ .cell v):Inv X pins' σ H s :=
 ⟨I.ok,I.os,I.bare,I.base,I.loc,I.cell,I.free,I.freeC,fun p hp=>(List.mem_append.mp hp).elim (fun z=>I.pin p (List.mem_append_left _ z)) (h p),I.hok,I.len⟩
theorem s0n {N:List Str}(hN:N.Nodup){i j:Nat}{x:Str}(a:N[i]? = some x)(b:N[j]? = some x):i=j:=by
 obtain⟨h1,e1⟩:=List.getElem?_eq_some_iff.mp a
 obtain⟨h2,e2⟩:=List.getElem?_eq_some_iff.mp b
 exact(List.getElem_inj hN).mp (e1.trans e2.symm)
theorem h0m {M:Model}{A:Around}{E:Value->Shared->Prop}{i:Nat}{x:Str}{v:V}{u:Value}{Q:Unit->Shared->Prop}(I:Inv X pins σ H s)(hN:X.N.Nodup)(hi:X.N[i]? = some x)(hx:Loc X.env.scope x)(r:RelV v u)
  (h:∀s',Inv X pins (σ.set i (some v)) H s'->(∃a,Heap.SameBut a s.heap s'.heap/\(a=X.env.locals∨X.env.cells.lookup x=some a))->Q () s') (hf:X.fn x=true∨X.env.scope.names.lookup x=some .local:=by first | exact .inl rfl | exact .inr rfl | assumption):wpAny M A (storeName X.env x u) Q E s:=by
 obtain⟨m,hn,hl⟩:=id I.loc
 have hcls:(X.env.scope.kind == .class||(X.env.scope.kind == .module&&X.env.locals != X.env.globals))=false:=by rw[I.ok.kind];rfl
 have hiσ:i<σ.length:=by rw[I.len];exact(List.getElem?_eq_some_iff.mp hi).1
 have cne:=I.cne
 have tracked:∀ {a:Addr} {h':Heap},(∃o,s.heap.get? a=some o/\H a=none)->Heap.SameBut a s.heap h'->HOk X.prog X.w H h':=fun{a h'} ha hs b ob e=>by
  obtain⟨_,_,hfree⟩:=ha
  refine(I.hok b ob e).stay (fun c w' hc q=>(hs.2 c ?_).trans q) (fun _ q=>q) fun _ _ q=>q
  rintro rfl
  rcases hc with rfl | hc
  ·rw[hfree]at e;cases e
  ·rw[hfree]at hc;cases hc
 rcases hx with hk | hk
 ·refine wpAny_storeName_local hk hn (fun h' hn' hs=>?_) hcls
  obtain⟨oL,_,_,hoL,_⟩:=id hn
  refine h _ ⟨I.ok,I.os,I.bare,⟨fun b o e n hb hx=>?_,fun b o e n hb hx=>?_,I.base.free,fun b o e hx=>?_,I.base.tups,I.base.frzs,I.base.tbls⟩,⟨_,hn',fun j y v' e1 e2 e3=>?_⟩,fun y c e=>?_,I.free,I.freeC,fun p hp=>?_,tracked ⟨oL,hoL,I.free⟩ hs,by simpa using I.len⟩ ⟨_,hs,.inl rfl⟩
  ·exact(hs.2 b (Nat.ne_of_lt (Nat.lt_of_lt_of_le (Heap.lt_size e) I.ok.above))).trans (I.base.keep b o e n hb hx)
  ·obtain⟨sl,e1⟩:=I.base.slot b o e n hb hx
   exact⟨sl,(hs.2 b (Nat.ne_of_lt (Nat.lt_of_lt_of_le (Heap.lt_size e) I.ok.above))).trans e1⟩
  ·obtain⟨o',e1⟩:=I.base.there b o e hx
   exact⟨o',(hs.2 b (Nat.ne_of_lt (Nat.lt_of_lt_of_le (Heap.lt_size e) I.ok.above))).trans e1⟩
  ·by_cases hj:j=i
   ·subst hj
    rw[hi]at e1;cases e1
    rw[List.getElem?_set_self hiσ]at e2
    cases e2
    exact⟨u,r,.inl ⟨hk,by simp⟩⟩
   ·rw[List.getElem?_set_ne (Ne.symm hj)]at e2
    obtain⟨u',r',q⟩:=hl j y v' e1 e2 e3
    refine⟨u',r',?_⟩
    rcases q with⟨k,e⟩ | ⟨k,c,e,z⟩
    ·refine .inl ⟨k,?_⟩
     have:y≠x:=fun e=>hj (s0n hN e1 (e▸hi))
     simp[this,e]
    ·exact .inr ⟨k,c,e,z.sameBut hs (cne y c e)⟩
  ·obtain⟨w',z⟩:=I.cell y c e
   exact⟨w',z.sameBut hs (cne y c e)⟩
  ·obtain⟨e,n,ne,nf,d⟩:=I.pin p hp
   exact⟨(hs.2 p.1 ne).trans e,n,ne,nf,d⟩
 ·have hfn:X.fn x=true:=by
   rcases hf with z | z
   ·exact z
   ·rw[z]at hk;cases hk
  obtain⟨c,hc⟩:=I.ok.has x (.inl hk)
  obtain⟨w',z⟩:=I.cell x c hc
  refine wpAny_storeName_cell I.ok.kind hk hc z (fun h' hc' hs=>?_)
  obtain⟨oc,hoc,hocd⟩:=id z
  refine h {s with heap:=h'} ⟨I.ok,I.os,I.bare,⟨fun b o e n hb hx=>?_,fun b o e n hb hx=>?_,I.base.free,fun b o e hx=>?_,I.base.tups,I.base.frzs,I.base.tbls⟩,⟨m,hn.sameBut hs (Ne.symm (cne x c hc)),fun j y v' e1 e2 e3=>?_⟩,fun y c' e=>?_,I.free,I.freeC,fun p hp=>?_,tracked ⟨oc,hoc,I.freeC x c hc⟩ hs,by simpa using I.len⟩ ⟨c,hs,.inr hc⟩
  ·exact(hs.2 b (Nat.ne_of_lt (Nat.lt_of_lt_of_le (Heap.lt_size e) (I.ok.cab x c hfn hc)))).trans (I.base.keep b o e n hb hx)
  ·obtain⟨sl,e1⟩:=I.base.slot b o e n hb hx
   exact⟨sl,(hs.2 b (Nat.ne_of_lt (Nat.lt_of_lt_of_le (Heap.lt_size e) (I.ok.cab x c hfn hc)))).trans e1⟩
  ·obtain⟨o',e1⟩:=I.base.there b o e hx
   exact⟨o',(hs.2 b (Nat.ne_of_lt (Nat.lt_of_lt_of_le (Heap.lt_size e) (I.ok.cab x c hfn hc)))).trans e1⟩
  ·by_cases hj:j=i
   ·subst hj
    rw[hi]at e1;cases e1
    rw[List.getElem?_set_self hiσ]at e2
    cases e2
    exact⟨u,r,.inr ⟨.inl hk,c,hc,hc'⟩⟩
   ·rw[List.getElem?_set_ne (Ne.symm hj)]at e2
    obtain⟨u',r',q⟩:=hl j y v' e1 e2 e3
    refine⟨u',r',?_⟩
    rcases q with q | ⟨k,c',e,z'⟩
    ·exact .inl q
    ·refine .inr ⟨k,c',e,z'.sameBut hs ?_⟩
     rintro rfl
     exact hj (s0n hN e1 (I.ok.inj _ _ _ e hc▸hi))
  ·by_cases hcc:c'=c
   ·subst hcc;exact⟨_,hc'⟩
   ·obtain⟨w2,z2⟩:=I.cell y c' e
    exact⟨w2,z2.sameBut hs hcc⟩
  ·obtain⟨e,n,ne,nf,d⟩:=I.pin p hp
   refine⟨(hs.2 p.1 ?_).trans e,n,ne,nf,d⟩
   intro q
   rw[q,hoc]at e
   have q':oc=p.2:=Option.some.inj e
   exact d w' (by rw[<- q'];exact hocd)
theorem r0z {M:Model}{A:Around}{E:Value->Shared->Prop}{i:Nat}{x:Str}{v:V}{u:Value}{Q:Unit->Shared->Prop}(I:Inv X pins σ H s)(hN:X.N.Nodup)(hi:X.N[i]? = some x)(hx:Loc X.env.scope x)(r:RelV v u)
  (h:∀s',Inv X pins (σ.set i (some v)) H s'->Q () s') (hf:X.fn x=true∨X.env.scope.names.lookup x=some .local:=by first | exact .inl rfl | exact .inr rfl | assumption):wpAny M A (storeName X.env x u) Q E s :=
 h0m I hN hi hx r (fun s' I' _=>h s' I') hf
theorem Inv.call' {s':Shared}{ch:List Addr}(I:Inv X pins σ H s)(ho:s'.os=s.os)(u:Un (frs X.stack) ch H H' s.heap s'.heap)(hok:HOk X.prog X.w H' s'.heap)(hg:AllBare s'.gens)
  (hch:∀b∈ch,(b∈X.ex∨X.s₀.heap.objs.size<=b)/\b≠X.env.locals/\(∀x c,X.env.cells.lookup x=some c->c≠b)/\∀p∈X.pn++pins,p.1≠b):Inv X pins σ H' s':=by
 obtain⟨h',g',d',t',o'⟩:=s'
 have e:o'=s.os:=ho
 subst e
 exact I.call (g':=g') (t':=t') (d':=d') u hok hg hch
end
abbrev XK:=Value->Option Addr->Hp->Prop
abbrev St:=List (Option V)
abbrev VK:=V->Hp->Prop
abbrev TE:=St->Hp->VK->Prop
abbrev TT:=St->Hp->(Bool->Hp->Prop)->Prop
abbrev TA:=St->Hp->(List V->Hp->Prop)->Prop
structure Ends where
 nx:St->Hp->Prop
 rt:VK
 bk:St->Hp->Prop:=fun _ _=>False
 ct:St->Hp->Prop:=fun _ _=>False
abbrev TS:=Ends->St->Hp->Prop
def EP (X:Cx)(pins:List (Addr×Obj))(σ:St)(Q:VK)(u:Value)(s':Shared):Prop:=∃v H',Inv X pins σ H' s'/\RelV v u/\Q v H'
def TP (X:Cx)(pins:List (Addr×Obj))(σ:St)(Q:Bool->Hp->Prop)(b:Bool)(s':Shared):Prop:=∃H',Inv X pins σ H' s'/\Q b H'
def AP (X:Cx)(pins:List (Addr×Obj))(σ:St)(Q:List V->Hp->Prop)(us:List Value)(s':Shared):Prop:=∃vs H',Inv X pins σ H' s'/\Vals vs us/\Q vs H'
def SP (X:Cx)(pins:List (Addr×Obj))(D:Ends)(f:Flow)(s':Shared):Prop :=
 match f with
 | .next=>∃ σ' H',Inv X pins σ' H' s'/\D.nx σ' H'
 | .brk=>∃ σ' H',Inv X pins σ' H' s'/\D.bk σ' H'
 | .cont=>∃ σ' H',Inv X pins σ' H' s'/\D.ct σ' H'
 | .ret u=>∃v σ' H',Inv X pins σ' H' s'/\RelV v u/\D.rt v H'
def PE (X:Cx)(e:Expr)(t:TE):Prop :=
 ∀(pins:List (Addr×Obj)) (s:Shared) (σ:St) (H:Hp) (Q:VK),Inv X pins σ H s->t σ H Q->wpAny (model X.prog X.w) X.A (eval e X.env) (EP X pins σ Q) X.xe s
def PT (X:Cx)(e:Expr)(t:TT):Prop :=
 ∀(pins:List (Addr×Obj)) (s:Shared) (σ:St) (H:Hp) (Q:Bool->Hp->Prop),Inv X pins σ H s->t σ H Q->wpAny (model X.prog X.w) X.A (isTrue e X.env (eval e X.env)) (TP X pins σ Q) X.xe s
def PW (X:Cx)(e:Expr)(t:TT):Prop :=
 ∀(whole:Sem Value) (pins:List (Addr×Obj)) (s:Shared) (σ:St) (H:Hp) (Q:Bool->Hp->Prop),Inv X pins σ H s->t σ H Q->wpAny (model X.prog X.w) X.A (isTrue e X.env whole) (TP X pins σ Q) X.xe s
theorem PW.pt {X:Cx}{e:Expr}{t:TT}(h:PW X e t):PT X e t:=h _
def PA (X:Cx)(es:List Expr)(t:TA):Prop :=
 ∀(pos:Pos) (pins:List (Addr×Obj)) (s:Shared) (σ:St) (H:Hp) (Q:List V->Hp->Prop),Inv X pins σ H s->t σ H Q->wpAny (model X.prog X.w) X.A (spliced (backTo pos (starEach es X.env))) (AP X pins σ Q) X.xe s
def PS (X:Cx)(st:Stmt)(t:TS):Prop :=
 ∀(pins:List (Addr×Obj)) (s:Shared) (σ:St) (H:Hp) (D:Ends),Inv X pins σ H s->t D σ H->wpAny (model X.prog X.w) X.A (exec st X.env) (SP X pins D) X.xe s
def PSs (X:Cx)(st:List Stmt)(t:TS):Prop :=
 ∀(pins:List (Addr×Obj)) (s:Shared) (σ:St) (H:Hp) (D:Ends),Inv X pins σ H s->t D σ H->wpAny (model X.prog X.w) X.A (execs st X.env) (SP X pins D) X.xe s
theorem thn {α:Type}{t:Sem α}{Q Q':α->Shared->Prop}{M:Model}{A:Around}{E:Value->Shared->Prop}{s:Shared}(h:wpAny M A t Q E s)(hQ:∀a s,Q a s->Q' a s):wpAny M A t Q' E s:=wpAny_mono h hQ fun _ _ x=>x
section
variable {X:Cx}
def tVar (i:Nat):TE:=fun σ H Q=>∃v,σ[i]? = some (some v)/\Q v H
def tC (v:V):TE:=fun _ H Q=>Q v H
theorem g1x {i:Nat}{x:Str}{pos:Pos}(hN:X.N[i]? = some x)(hv:Vis X.env.scope x)(hd:(x==("__debug__" : Str))=false:=by decide)(hcd:(x==("__classdict__" : Str))=false:=by decide):PE X (.Name x pos) (tVar i):=by
 intro pins s σ H Q I h
 obtain⟨v,e,h⟩:=h
 obtain⟨m,hn,hl⟩:=I.loc
 obtain⟨u,r,l⟩:=hl i x v hN e hv
 have fin:EP X pins σ Q u s:=⟨v,H,I,r,h⟩
 rcases l with⟨hk,hm⟩ | ⟨hk,c,hc,hcell⟩
 ·exact wpAny_Name (wpAny_loadName_local I.ok.kind hk hn hm fin) hd
 ·rcases hk with hk | hk
  ·exact wpAny_Name (wpAny_loadName_cell I.ok.kind hk hc hcell fin) hd
  ·exact wpAny_Name (wpAny_loadName_free I.ok.kind hk hc hcell fin hcd) hd
theorem a0h {i j pos}:PE X (.Constant (.int i) j pos) (tC (.int i)):=fun _ _ _ H _ I h=>wpAny_Constant_int ⟨.int i,H,I.tok _,⟨_,rfl⟩,h⟩
theorem q0p {b j pos}:PE X (.Constant (.bool b) j pos) (tC (.bl b)):=fun _ _ _ H _ I h=>Constant_bool ⟨.bl b,H,I,rfl,h⟩
theorem h0p {j pos}:PE X (.Constant .none j pos) (tC .non):=fun _ _ _ H _ I h=>Constant_none ⟨.non,H,I,rfl,h⟩
theorem e0q {x j pos}:PE X (.Constant (.str x) j pos) (tC (.str x)):=fun _ _ _ H _ I h=>Calls.Constant_str ⟨.str x,H,I.tok _,⟨_,rfl⟩,h⟩
def Gl (X:Cx)(x:Str):Prop:=X.env.kindOf x=some .globalImplicit
theorem k0f {E:Value->Shared->Prop}{pins:List (Addr×Obj)}{s:Shared}{σ:St}{H:Hp}{x:Str}{u:Value}{pos:Pos}{Q:Value->Shared->Prop}(I:Inv X pins σ H s)(hg:Gl X x)(hm:X.mg x=some u)(h:Q u s)
  (hd:(x==("__debug__" : Str))=false:=by decide):wpAny (model X.prog X.w) X.A (eval (.Name x pos) X.env) Q E s :=
 Calls.Name_function_global I.ok.kind hg (Calls.loadGlobal_global (by rw[I.ok.glob];exact I.mod.glob.keeps I.bk) hm h) hd
theorem l0r {E:Value->Shared->Prop}{pins:List (Addr×Obj)}{s:Shared}{σ:St}{H:Hp}{x:Str}{u:Value}{pos:Pos}{Q:Value->Shared->Prop}(I:Inv X pins σ H s)(hg:Gl X x)(hm:X.mg x=none)(hv:bootBuiltins x=some u)(h:Q u s)
  (hn:x ≠ "__name__" := by decide) (hd:(x==("__debug__" : Str))=false:=by decide):wpAny (model X.prog X.w) X.A (eval (.Name x pos) X.env) Q E s:=by
 obtain⟨mb,h1,h2⟩:=I.mod.blt
 exact Calls.Name_function_global I.ok.kind hg (Calls.loadGlobal_builtin (by rw[I.ok.glob];exact I.mod.glob.keeps I.bk) hm (by rw[I.ok.blt];exact h1.keeps I.bk) ((h2 x hn).trans hv) h) hd
theorem e0b {x:Str}{v:V}{u:Value}{pos:Pos}(hg:Gl X x)(hm:X.mg x=some u)(r:RelV v u)(hd:(x==("__debug__" : Str))=false:=by decide):PE X (.Name x pos) (tC v) :=
 fun _ _ _ H _ I h=>k0f I hg hm ⟨v,H,I,r,h⟩ hd
theorem d1p {x:Str}{v:V}{u:Value}{pos:Pos}(hg:Gl X x)(hm:X.mg x=none)(hv:bootBuiltins x=some u)(r:RelV v u)(hn:x ≠ "__name__" := by decide)(hd:(x==("__debug__" : Str))=false:=by decide):PE X (.Name x pos) (tC v) :=
 fun _ _ _ H _ I h=>l0r I hg hm hv ⟨v,H,I,r,h⟩ hn hd
variable {a b:Expr}{ta tb:TE}{pos:Pos}
def tB (t:TE):TT:=fun σ H Q=>t σ H fun x H1=>∃c,x = .bl c/\Q c H1
theorem h0o {e:Expr}{t:TE}(h:PE X e t)(he:∀whole,isTrue e X.env whole=(do let v <- whole;standAt e.pos;holding [v] (truthy v)):=by intro _;rfl):PT X e (tB t):=by
 intro pins s σ H Q I hw
 refine isTrue_plain (thn (h pins s σ H _ I hw) fun v s1 ⟨x,H1,I1,r1,q1⟩=>?_) (he _)
 obtain⟨d,rfl,q⟩:=q1
 cases r1
 exact wpAny_truthy_bool ⟨H1,I1,q⟩
variable {tA tB':TT}{rest:List Expr}
def tAnd (t u:TT):TT:=fun σ H Q=>t σ H fun c H1=>if c=true then u σ H1 Q else Q false H1
def tOr (t u:TT):TT:=fun σ H Q=>t σ H fun c H1=>if c=true then Q true H1 else u σ H1 Q
def tNot (t:TT):TT:=fun σ H Q=>t σ H fun c H1=>Q (!c) H1
theorem g0c (ha:PT X a tA):PW X (.BoolOp .And [a] pos) tA:=by
 intro wh pins s σ H Q I h
 refine isTrue_and (thn (ha pins s σ H Q I h) fun c s1 e=>?_)
 cases c with
 | true=>exact isTrue_and_nil e
 | false=>exact e
theorem o0g (ha:PT X a tA):PW X (.BoolOp .Or [a] pos) tA:=by
 intro wh pins s σ H Q I h
 refine isTrue_or (thn (ha pins s σ H Q I h) fun c s1 e=>?_)
 cases c with
 | false=>exact isTrue_or_nil e
 | true=>exact e
theorem i0o (ha:PT X a tA)(hb:PW X (.BoolOp .And (b::rest) pos) tB'):PW X (.BoolOp .And (a::b::rest) pos) (tAnd tA tB'):=by
 intro wh pins s σ H Q I h
 refine isTrue_and (thn (ha pins s σ H _ I h) fun c s1 ⟨H1,I1,q1⟩=>?_)
 cases c with
 | true=>exact hb wh pins s1 σ H1 Q I1 q1
 | false=>exact⟨H1,I1,q1⟩
theorem o0h (ha:PT X a tA)(hb:PW X (.BoolOp .Or (b::rest) pos) tB'):PW X (.BoolOp .Or (a::b::rest) pos) (tOr tA tB'):=by
 intro wh pins s σ H Q I h
 refine isTrue_or (thn (ha pins s σ H _ I h) fun c s1 ⟨H1,I1,q1⟩=>?_)
 cases c with
 | true=>exact⟨H1,I1,q1⟩
 | false=>exact hb wh pins s1 σ H1 Q I1 q1
theorem j0o (ha:PT X a tA):PT X (.UnaryOp .Not a pos) (tNot tA):=by
 intro pins s σ H Q I h
 exact isTrue_not (ha pins s σ H (fun c H1=>Q (!c) H1) I h)
def g1j (ta tb:TE):TE:=fun σ H Q=>ta σ H fun x H1=>∃c,x = .bl c/\if c=true then tb σ H1 Q else Q (.bl false) H1
def g1g (ta:TE):TE:=fun σ H Q=>ta σ H fun x H1=>∃c,x = .bl c/\Q (.bl (!c)) H1
theorem b1w {op}{t:TE}(h:PE X a t):PE X (.BoolOp op [a] pos) t:=fun pins s σ H Q I hw=>BoolOp_one (h pins s σ H Q I hw)
theorem w0l (ha:PE X a ta)(hb:PE X (.BoolOp .And (b::rest) pos) tb):PE X (.BoolOp .And (a::b::rest) pos) (g1j ta tb):=by
 intro pins s σ H Q I h
 refine BoolOp_and (thn (ha pins s σ H _ I h) fun v s1 ⟨x,H1,I1,r1,q1⟩=>?_)
 obtain⟨c,rfl,q1⟩:=q1
 cases r1
 refine wpAny_truthy_bool ?_
 cases c with
 | true=>exact hb pins s1 σ H1 Q I1 q1
 | false=>exact⟨.bl false,H1,I1,rfl,q1⟩
theorem g1y (ha:PE X a ta):PE X (.UnaryOp .Not a pos) (g1g ta):=by
 intro pins s σ H Q I h
 refine UnaryOp_ (thn (ha pins s σ H _ I h) fun v s1 ⟨x,H1,I1,r1,q1⟩=>?_)
 obtain⟨c,rfl,q1⟩:=q1
 cases r1
 exact not_of (wpAny_truthy_bool ⟨.bl (!c),H1,I1,rfl,q1⟩)
end
def SqL (K:PySem.W.Frag)(H:Hp)(a:Addr)(xs:List V):Prop :=
 Rd H a (.lst xs) ∨
  ∃(o:Obj) (its:Array Value) (n:Nat),K.lookup a=some o/\o.cls = .type "list" /\ o.dict=none/\o.data = .seq its n/\its.size<=sizeLine/\Vals xs its.toList
def SqT (K:PySem.W.Frag)(H:Hp)(a:Addr)(xs:List V):Prop :=
 Rd H a (.tup xs) ∨
  ∃(o:Obj) (its:Array Value) (n:Nat),K.lookup a=some o/\o.cls = .type "tuple" /\ o.data = .seq its n/\its.size<=sizeLine/\Vals xs its.toList
def absV:Value->Option V
 | .none=>some .non
 | .bool b=>some (.bl b)
 | .int i _=>some (.int i)
 | .str x _=>some (.str x)
 | .bytes b _=>some (.byt b)
 | .float b _=>some (.flt b)
 | .ref a=>some (.ref a)
 | .type n=>some (.ty n)
 | _=>none
theorem RelV.abs {x:V}{u:Value}(r:RelV x u):absV u=some x:=by
 cases x with
 | non=>cases r;rfl
 | bl _=>cases r;rfl
 | int _=>obtain⟨t,rfl⟩:=r;rfl
 | str _=>obtain⟨t,rfl⟩:=r;rfl
 | byt _=>obtain⟨t,rfl⟩:=r;rfl
 | flt _=>obtain⟨t,rfl⟩:=r;rfl
 | ref _=>cases r;rfl
 | ty _=>cases r;rfl
theorem RelV.inj {x y:V}{u:Value}(r:RelV x u)(q:RelV y u):x=y:=Option.some.inj (r.abs.symm.trans q.abs)
theorem Vals.inj:∀ {xs ys:List V} {us:List Value},Vals xs us->Vals ys us->xs=ys
 | _,_,_,.nil,.nil=>rfl
 | _,_,_,.cons r t,.cons r' t'=>by rw[r.inj r',Vals.inj t t']
section
variable {X:Cx}{pins:List (Addr×Obj)}{σ:St}{H:Hp}{s:Shared}{a:Addr}{xs ys:List V}
theorem SqL.of {K:PySem.W.Frag}(h:H a=some (.lst xs)):SqL K H a xs:=.inl (.inl h)
theorem SqT.of {K:PySem.W.Frag}(h:H a=some (.tup xs)):SqT K H a xs:=.inl (.inl h)
theorem Inv.list (I:Inv X pins σ H s)(h:SqL X.K H a xs):∃its:List Value,Vals xs its/\PlainL s.heap a its.toArray/\xs.length<=sizeLine:=by
 rcases h with h | ⟨o,its,n,hk,hc,hd,hs,hz,r⟩
 ·obtain⟨z,its,n,r,e⟩:=h.ok I.hok
  exact⟨its,r,⟨_,n,e,rfl,rfl,rfl⟩,z⟩
 ·refine⟨its.toList,r,⟨o,n,I.kIn a o hk,hc,hd,by simpa using hs⟩,?_⟩
  have e:=r.length
  simp only[Array.length_toList]at e
  omega
theorem Inv.tuple (I:Inv X pins σ H s)(h:SqT X.K H a xs):∃its:List Value,Vals xs its/\IsTup s.heap a its.toArray/\xs.length<=sizeLine:=by
 rcases h with h | ⟨o,its,n,hk,hc,hs,hz,r⟩
 ·obtain⟨z,its,r,p⟩:=h.ok I.hok
  exact⟨its,r,p,z⟩
 ·refine⟨its.toList,r,⟨o,I.kIn a o hk,hc,n,by simpa using hs⟩,?_⟩
  have e:=r.length
  simp only[Array.length_toList]at e
  omega
theorem Inv.list_inj (I:Inv X pins σ H s)(h:SqL X.K H a xs)(h':SqL X.K H a ys):xs=ys:=by
 obtain⟨its,r,⟨o,n,e,_,_,d⟩,_⟩:=I.list h
 obtain⟨its',r',⟨o',n',e',_,_,d'⟩,_⟩:=I.list h'
 rw[e]at e';cases e'
 rw[d]at d'
 injection d' with d1 _
 have:its=its':=by simpa using congrArg Array.toList d1
 subst this
 exact r.inj r'
theorem Inv.tuple_inj (I:Inv X pins σ H s)(h:SqT X.K H a xs)(h':SqT X.K H a ys):xs=ys:=by
 obtain⟨its,r,⟨o,e,_,n,d⟩,_⟩:=I.tuple h
 obtain⟨its',r',⟨o',e',_,n',d'⟩,_⟩:=I.tuple h'
 rw[e]at e';cases e'
 rw[d]at d'
 injection d' with d1 _
 have:its=its':=by simpa using congrArg Array.toList d1
 subst this
 exact r.inj r'
end
abbrev Cx.wish (X:Cx)(E:Value->Shared->Prop):Cx:={X with xe:=E}
abbrev Cx.nox (X:Cx):Cx:=X.wish fun _ _=>False
theorem Cx.Ok.wish {X:Cx}(ok:X.Ok)(E:Value->Shared->Prop):(X.wish E).Ok :=
 ⟨ok.mod,ok.kind,ok.glob,ok.blt,ok.above,ok.inj,ok.has,ok.cab,ok.hd,ok.frames,ok.stk,ok.exf,ok.bs,ok.bsz,ok.noex,ok.exfs,ok.funs,ok.frf⟩
theorem Cx.Ok.unwish {X:Cx}{E:Value->Shared->Prop}(ok:(X.wish E).Ok):X.Ok :=
 ⟨ok.mod,ok.kind,ok.glob,ok.blt,ok.above,ok.inj,ok.has,ok.cab,ok.hd,ok.frames,ok.stk,ok.exf,ok.bs,ok.bsz,ok.noex,ok.exfs,ok.funs,ok.frf⟩
section
variable {X:Cx}{pins:List (Addr×Obj)}{σ:St}{H:Hp}{s:Shared}{E:Value->Shared->Prop}
theorem Inv.wish (I:Inv X pins σ H s)(E:Value->Shared->Prop):Inv (X.wish E) pins σ H s:=⟨I.ok.wish E,I.os,I.bare,I.base,I.loc,I.cell,I.free,I.freeC,I.pin,I.hok,I.len⟩
theorem Inv.unwish (I:Inv (X.wish E) pins σ H s):Inv X pins σ H s:=⟨I.ok.unwish,I.os,I.bare,I.base,I.loc,I.cell,I.free,I.freeC,I.pin,I.hok,I.len⟩
theorem SP.unwish {D:Ends}{f:Flow}{s':Shared}(h:SP (X.wish E) pins D f s'):SP X pins D f s':=by
 cases f with
 | next=>obtain⟨σ',H',I,q⟩:=h;exact⟨σ',H',I.unwish,q⟩
 | brk=>obtain⟨σ',H',I,q⟩:=h;exact⟨σ',H',I.unwish,q⟩
 | cont=>obtain⟨σ',H',I,q⟩:=h;exact⟨σ',H',I.unwish,q⟩
 | ret u=>obtain⟨v,σ',H',I,r,q⟩:=h;exact⟨v,σ',H',I.unwish,r,q⟩
theorem PE.nox {e:Expr}{t:TE}(h:PE X.nox e t):PE X e t:=fun pins s σ H Q I hw =>
 wpAny_mono (h pins s σ H Q (I.wish _) hw) (fun _ _ ⟨v,H',I',r,q⟩=>⟨v,H',I'.unwish,r,q⟩) fun _ _ z=>False.elim z
theorem PT.nox {e:Expr}{t:TT}(h:PT X.nox e t):PT X e t:=fun pins s σ H Q I hw =>
 wpAny_mono (h pins s σ H Q (I.wish _) hw) (fun _ _ ⟨H',I',q⟩=>⟨H',I'.unwish,q⟩) fun _ _ z=>False.elim z
theorem PSs.nox {st:List Stmt}{t:TS}(h:PSs X.nox st t):PSs X st t:=fun pins s σ H D I hw =>
 wpAny_mono (h pins s σ H D (I.wish _) hw) (fun _ _ q=>q.unwish) fun _ _ z=>False.elim z
end
section
variable {X:Cx}{st:Stmt}{rest:List Stmt}{t u:TS}{e:Expr}{te:TE}{pos:Pos}
def tNext:TS:=fun D σ H=>D.nx σ H
def tSeq (t u:TS):TS:=fun D σ H=>t {D with nx:=u D} σ H
theorem c0b:PSs X [] tNext:=fun _ _ σ H _ I h=>wpAny_execs_nil ⟨σ,H,I,h⟩
theorem a0f (h1:PS X st t)(h2:PSs X rest u):PSs X (st::rest) (tSeq t u):=by
 intro pins s σ H D I h
 refine wpAny_execs_cons (thn (h1 pins s σ H {D with nx:=u D} I h) fun f s1 q=>?_)
 cases f with
 | next =>
  obtain⟨σ',H',I',q⟩:=q
  exact h2 pins s1 σ' H' D I' q
 | ret v=>exact q
 | brk=>exact q
 | cont=>exact q
theorem a0n (h1:PS X st t):PSs X [st] t:=by
 intro pins s σ H D I h
 refine wpAny_execs_cons (thn (h1 pins s σ H D I h) fun f s1 q=>?_)
 cases f with
 | next=>exact wpAny_execs_nil q
 | ret v=>exact q
 | brk=>exact q
 | cont=>exact q
theorem Inv.quiet {pins:List (Addr×Obj)}{σ:St}{H:Hp}{s:Shared}(I:Inv X pins σ H s):interactive X.env=false:=by simp[interactive,I.ok.kind]
def g1h (te:TE):TS:=fun D σ H=>te σ H fun _ H1=>D.nx σ H1
theorem h0d (he:PE X e te)(hs:swapsWith e none pos.line X.env=pure false:=by rfl):PS X (.Expr e pos) (g1h te):=by
 intro pins s σ H D I h
 exact wpAny_Expr_any (thn (he pins s σ H _ I h) fun v s1 ⟨x,H1,I1,r1,q1⟩=>⟨σ,H1,I1,q1⟩) I.quiet hs
def tRet (te:TE):TS:=fun D σ H=>te σ H D.rt
theorem b0t (he:PE X e te):PS X (.Return (some e) pos) (tRet te):=by
 intro pins s σ H D I h
 exact wpAny_Return_some (thn (he pins s σ H _ I h) fun v s1 ⟨x,H1,I1,r1,q1⟩=>⟨x,σ,H1,I1,r1,q1⟩)
def tIfS (c:TT)(t u:TS):TS:=fun D σ H=>c σ H fun b H1=>if b=true then t D σ H1 else u D σ H1
theorem f0a {c:Expr}{a b:List Stmt}{tc:TT}(hc:PT X c tc)(ha:PSs X a t)(hb:PSs X b u):PS X (.If c a b pos) (tIfS tc t u):=by
 intro pins s σ H D I h
 refine wpAny_If (thn (hc pins s σ H _ I h) fun d s1 ⟨H1,I1,q1⟩=>?_)
 cases d with
 | true=>exact ha pins s1 σ H1 D I1 q1
 | false=>exact hb pins s1 σ H1 D I1 q1
def tNever:TS:=fun _ _ _=>False
theorem z0s:PS X st tNever:=fun _ _ _ _ _ _ h=>h.elim
end
abbrev TG:=V->St->Hp->(St->Hp->Prop)->Prop
abbrev TGs:=List V->St->Hp->(St->Hp->Prop)->Prop
def PG (X:Cx)(target:Expr)(t:TG):Prop :=
 ∀(pins:List (Addr×Obj)) (s:Shared) (σ:St) (H:Hp) (v:V) (u:Value) (Q:St->Hp->Prop),Inv X pins σ H s->RelV v u->t v σ H Q ->
  wpAny (model X.prog X.w) X.A (assign target X.env u) (fun _ s'=>∃ σ' H',Inv X pins σ' H' s'/\Q σ' H') X.xe s
def PGs (X:Cx)(ts:List Expr)(t:TGs):Prop :=
 ∀(pins:List (Addr×Obj)) (s:Shared) (σ:St) (H:Hp) (vs:List V) (us:List Value) (Q:St->Hp->Prop),Inv X pins σ H s->Vals vs us->t vs σ H Q ->
  wpAny (model X.prog X.w) X.A (assignInOrder ((assignEach ts X.env).map (·.2)) us) (fun _ s'=>∃ σ' H',Inv X pins σ' H' s'/\Q σ' H') X.xe s
section
variable {X:Cx}{pos:Pos}
def a1e (i:Nat):TG:=fun v σ H Q=>Q (σ.set i (some v)) H
theorem a0t {i:Nat}{x:Str}(hN:X.N.Nodup)(hi:X.N[i]? = some x)(hx:Loc X.env.scope x)(hf:X.fn x=true∨X.env.scope.names.lookup x=some .local:=by first | exact .inl rfl | exact .inr rfl | assumption):PG X (.Name x pos) (a1e i):=by
 intro pins s σ H v u Q I r h
 exact wpAny_assign_Name (r0z I hN hi hx r (fun s' I'=>⟨_,H,I',h⟩) hf)
def gNil:TGs:=fun vs σ H Q=>vs=[]/\Q σ H
def i1c (t:TG)(u:TGs):TGs:=fun vs σ H Q=>∃v r,vs=v::r/\t v σ H fun σ' H'=>u r σ' H' Q
theorem i0c:PGs X [] gNil:=by
 intro pins s σ H vs us Q I r h
 obtain⟨e,h⟩:=h
 subst e
 cases r
 exact assignInOrder_nil ⟨σ,H,I,h⟩
theorem c0y {e:Expr}{es:List Expr}{t:TG}{u:TGs}(h1:PG X e t)(h2:PGs X es u)
  (hs:(assignEach (e::es) X.env).map (·.2)=assign e X.env::(assignEach es X.env).map (·.2):=by rfl):PGs X (e::es) (i1c t u):=by
 intro pins s σ H vs us Q I r h
 obtain⟨v,vr,e1,h⟩:=h
 subst e1
 cases r with
 | cons r rr =>
  rw[hs]
  refine assignInOrder_cons (thn (h1 pins s σ H _ _ _ I r h) fun _ s1 ⟨σ1,H1,I1,q1⟩=>?_)
  exact h2 pins s1 σ1 H1 _ _ Q I1 rr q1
def gTup (K:PySem.W.Frag)(n:Nat)(t:TGs):TG:=fun v σ H Q=>∃a xs,v = .ref a/\SqT K H a xs/\xs.length=n/\t xs σ H Q
theorem g1w {es:List Expr}{k:Nat}{t:TGs}{n:Nat}(hc:X.calm=true)(h:PGs X es t)
  (hn:(assignEach es X.env).length=n:=by rfl) (hst:(assignEach es X.env).findIdx? (·.1)=none:=by rfl):PG X (.Tuple es k pos) (gTup X.K n t):=by
 intro pins s σ H v u Q I r hw
 obtain⟨a,xs,e1,hq,hl,hw⟩:=hw
 subst e1
 cases r
 obtain⟨its,rv,ht,hz⟩:=I.tuple hq
 refine assign_Tuple_tuple (I.ok.hd hc) ht (by simp[hn,<- hl,rv.length]) hst fun h' hx=>?_
 have I1:Inv X pins σ H {s with heap:=h'}:=I.kept (t':=s.toks) fun b o e=>hx b o (Nat.ne_of_lt (Heap.lt_size e)) e
 exact h pins _ σ H xs _ Q I1 (by simpa using rv) hw
def tAsg (te:TE)(g:TG):TS:=fun D σ H=>te σ H fun x H1=>g x σ H1 D.nx
theorem s0h {tg e:Expr}{te:TE}{g:TG}(he:PE X e te)(hg:PG X tg g)(hs:swapsWithSole [tg] e pos.line X.env=pure false:=by rfl)(hw:swappedStores [tg] e X.env=pure none:=by rfl)
  (h1:(assignEach [tg] X.env).map (·.2)=[assign tg X.env]:=by rfl):PS X (.Assign [tg] e pos) (tAsg te g):=by
 intro pins s σ H D I h
 refine wpAny_Assign_stores (thn (he pins s σ H _ I h) fun v s1 ⟨x,H1,I1,r1,q1⟩=>?_) hs hw
 rw[h1]
 exact thn (hg pins s1 σ H1 x v _ I1 r1 q1) fun _ s2 q=>q
theorem b0c {i:Nat}{x:Str}{e:Expr}{te:TE}{pos':Pos}(hN:X.N.Nodup)(hi:X.N[i]? = some x)(hx:Loc X.env.scope x)(he:PE X e te)(hs:swapsWith e (some (.Name x pos')) pos.line X.env=pure false:=by rfl)(hf:X.fn x=true∨X.env.scope.names.lookup x=some .local:=by first | exact .inl rfl | exact .inr rfl | assumption) :
  PS X (.Assign [.Name x pos'] e pos) (tAsg te (a1e i)):=by
 intro pins s σ H D I h
 refine wpAny_Assign_Name (thn (he pins s σ H _ I h) fun v s1 ⟨y,H1,I1,r1,q1⟩=>?_) hs
 exact r0z I1 hN hi hx r1 (fun s2 I2=>⟨_,H1,I2,q1⟩) hf
end
section
variable {X:Cx}{pos:Pos}
def v0n (c:TT)(tb:TS):TS:=fun D σ H=>∃W:Nat->St->Hp->Prop,(∃m,W m σ H)/\∀m σ H,W m σ H ->
 c σ H fun b H1=>if b=true then ∃N:St->Hp->Prop,(∀ σ' H',N σ' H'->∃m',m'<m/\W m' σ' H')/\tb {D with nx:=N,ct:=N,bk:=D.nx} σ H1 else D.nx σ H1
theorem s0g {c:Expr}{body:List Stmt}{tc:TT}{tb:TS}(hp:PassesOwn (model X.prog X.w) X.A X.env X.xe)(hc:PT X c tc)(hb:PSs X body tb):PS X (.While c body [] pos) (v0n tc tb):=by
 intro pins s σ H D I h
 obtain⟨W,⟨m0,w0⟩,turn⟩:=h
 refine wpAny_While (codeAny_whileLoop (fun n s'=>∃ σ' H',Inv X pins σ' H' s'/\W n σ' H') ?_ m0 ⟨σ,H,I,w0⟩)
 rintro n s1 ⟨σ1,H1,I1,w1⟩
 refine wpAny_passesOwn hp (thn (hc pins s1 σ1 H1 _ I1 (turn n σ1 H1 w1)) fun b s2 ⟨H2,I2,q2⟩=>?_)
 cases b with
 | true =>
  obtain⟨N,hN,q2⟩:=q2
  rw[if_pos rfl]
  refine wpAny_passesOwn hp (thn (hb pins s2 σ1 H2 _ I2 q2) fun f s3 q3=>?_)
  cases f with
  | next =>
   obtain⟨σ3,H3,I3,n3⟩:=q3
   obtain⟨m',hm,w3⟩:=hN σ3 H3 n3
   exact⟨m',hm,σ3,H3,I3,w3⟩
  | cont =>
   obtain⟨σ3,H3,I3,n3⟩:=q3
   obtain⟨m',hm,w3⟩:=hN σ3 H3 n3
   exact⟨m',hm,σ3,H3,I3,w3⟩
  | brk=>exact q3
  | ret v=>exact q3
 | false =>
  rw[if_neg Bool.false_ne_true]
  exact wpAny_execs_nil ⟨σ1,H2,I2,q2⟩
end
structure It where
 go:Nat->Hp->Prop
 yld:Nat->Hp->V->Hp->Prop
 stop:Nat->Hp->Prop
def FpOk (X:Cx)(pins:List (Addr×Obj))(H:Hp)(b:Addr):Prop :=
 H b=none/\b≠X.env.locals/\b∉X.fs/\(b∈X.ex∨X.s₀.heap.objs.size<=b)/\(∀x c,X.env.cells.lookup x=some c->c≠b)/\∀p∈X.pn++pins,p.1≠b
theorem Inv.fpOk {X:Cx}{pins:List (Addr×Obj)}{σ:St}{H H':Hp}{s:Shared}{b:Addr}(I:Inv X pins σ H s)(hb:s.heap.objs.size<=b)(hn:H' b=none):FpOk X pins H' b:=by
 refine⟨hn,Nat.ne_of_gt (Nat.lt_of_lt_of_le I.lt hb),I.nofs hb,.inr (Nat.le_trans I.sz hb),fun x c e z=>?_,fun p hp z=>?_⟩
 ·obtain⟨v,q⟩:=I.cell x c e
  exact absurd (Nat.lt_of_lt_of_le q.lt (by rw[z];exact hb)) (Nat.lt_irrefl _)
 ·exact absurd (Nat.lt_of_lt_of_le (Heap.lt_size (I.pin p hp).1) (by rw[z];exact hb)) (Nat.lt_irrefl _)
structure Turn (P:Program)(w:World)(K:PySem.W.Frag)(tg:Expr)(J:It)(fp:List Addr)(it:Addr)(tn:Nat->Heap->Prop):Prop where
 mem:it∈fp
 obj:∀i h,tn i h->∀b∈fp,∃o,h.get? b=some o/\∀v,o.data ≠ .cell v
 keep:∀i h h',tn i h->(∀b∈fp,∀o,h.get? b=some o->h'.get? b=some o)->tn i h'
 item:∀(X:Cx),X.prog=P->X.w=w->X.K=K->X.calm=true->∀(i:Nat) (pins:List (Addr×Obj)) (s:Shared) (σ:St) (H:Hp) (E:Value->Shared->Prop),Inv X pins σ H s->(∀b∈fp,FpOk X pins H b)->tn i s.heap->J.go i H ->
  wpAny (model P w) X.A (pyNext (.ref it)) (fun r s1=>∃u,r=some u /\
   wpAny (model P w) X.A (letOwnedTupleGo tg (.ref it) u) (fun _ s2=>∃x H',Inv X pins σ H' s2/\RelV x u/\J.yld i H x H'/\tn (i+1) s2.heap/\∀b∈fp,H' b=none) E s1) E s
 done:∀(X:Cx),X.prog=P->X.w=w->X.K=K->X.calm=true->∀(i:Nat) (pins:List (Addr×Obj)) (s:Shared) (σ:St) (H:Hp) (E:Value->Shared->Prop),Inv X pins σ H s->(∀b∈fp,FpOk X pins H b)->tn i s.heap->J.stop i H ->
  wpAny (model P w) X.A (pyNext (.ref it)) (fun r s1=>r=none/\Inv X pins σ H s1) E s
 self:∀(A:Around) (i:Nat) (s:Shared) (Q:Value->Shared->Prop) (E:Value->Shared->Prop),tn i s.heap->Q (.ref it) s->wpAny (model P w) A (pyIter (.ref it)) Q E s
abbrev TI:=St->Hp->(It->Hp->Prop)->Prop
def PIE (X:Cx)(pins:List (Addr×Obj))(σ:St)(tg:Expr)(R:It->Hp->Prop)(itv:Value)(s2:Shared):Prop :=
 ∃(it:Addr) (fp:List Addr) (tn:Nat->Heap->Prop) (J:It) (H':Hp),itv = .ref it/\Inv X pins σ H' s2/\Turn X.prog X.w X.K tg J fp it tn/\tn 0 s2.heap/\(∀b∈fp,FpOk X pins H' b)/\R J H'
def PI (X:Cx)(tg iter:Expr)(wi:TI):Prop :=
 ∀(pins:List (Addr×Obj)) (s:Shared) (σ:St) (H:Hp) (R:It->Hp->Prop),Inv X pins σ H s->wi σ H R ->
  wpAny (model X.prog X.w) X.A (eval iter X.env) (fun v s1=>wpAny (model X.prog X.w) X.A (pyIter v) (PIE X pins σ tg R) X.xe s1) X.xe s
theorem e1n {M:Model}{A:Around}{E:Value->Shared->Prop}{s:Shared}{tg:Expr}{it:Addr}{u:Value}{o:Obj}{n:String}{vs:Array Value}{Q:Unit->Shared->Prop}(ho:s.heap.get? it=some o)(hc:o.cls = .type n)(hd:o.data = .fields vs)
  (hn:["enumerate", "zip", "dict_itemiterator", "dict_reverseitemiterator", "odict_iterator", "itertools.zip_longest", "itertools.pairwise"].contains n=false) (hQ:Q () s):wpAny M A (letOwnedTupleGo tg (.ref it) u) Q E s:=by
 unfold letOwnedTupleGo
 cases tg <;> first
  | exact wpAny_pure hQ
  | (cases u <;> first
    | exact wpAny_pure hQ
    | (refine wpAny_bind (wpAny_load ho ?_);rw[hc,hd];show wpAny M A (if(["enumerate", "zip", "dict_itemiterator", "dict_reverseitemiterator", "odict_iterator", "itertools.zip_longest", "itertools.pairwise"].contains n&&vs[0]? == some (rawInt _))=true then _ else _) Q E s;rw[if_neg (by intro h;rw[hn,Bool.false_and]at h;cases h)];exact wpAny_pure hQ))
def Itl (K:PySem.W.Frag)(a:Addr):It :=
 ⟨fun i H=>∃xs x,SqL K H a xs/\xs[i]? = some x,fun i H x H'=>H'=H/\∀xs,SqL K H a xs->xs[i]? = some x,fun i H=>∃xs,SqL K H a xs/\xs.length<=i⟩
def Itt (K:PySem.W.Frag)(a:Addr):It :=
 ⟨fun i H=>∃xs x,SqT K H a xs/\xs[i]? = some x,fun i H x H'=>H'=H/\∀xs,SqT K H a xs->xs[i]? = some x,fun i H=>∃xs,SqT K H a xs/\xs.length<=i⟩
def Itr (lo:Int)(n:Nat):It:=⟨fun i _=>i<n,fun i H x H'=>H'=H/\x = .int (lo+i),fun i _=>n<=i⟩
theorem v0a {P:Program}{w:World}{K:PySem.W.Frag}{tg:Expr}(a it:Addr):Turn P w K tg (Itl K a) [it] it (fun i h=>h.IsListIter it a i) where
 mem:=by simp
 obj:=fun i h st b hb=>by
  have e:b=it:=by simpa using hb
  subst e
  obtain⟨o,e,c,d⟩:=st
  exact⟨o,e,fun v z=>by rw[d]at z;cases z⟩
 keep:=fun i h h' st k=>st.at fun o e=>k it (by simp) o e
 item:=by
  intro X hP hw hK hc i pins s σ H E I hf st hg
  subst hP hw hK
  obtain⟨xs,x,hq,hx⟩:=hg
  obtain⟨its,rv,p,hz⟩:=I.list hq
  obtain⟨u,hu,ru⟩:=rv.get hx
  obtain⟨f0,f1,f2,f3,f4,f5⟩:=hf it (by simp)
  refine wpAny_pyNext_list_item st p.isList (x:=u) (by simpa using hu) fun h' st' sb=>?_
  have I1:Inv X pins σ H {s with heap:=h'}:=I.turned (t':=s.toks) (fun b o hb e=>(sb.2 b hb).trans e) f0 f1 f3 f4 f5
  obtain⟨o,e,c,d⟩:=id st'
  exact⟨u,rfl,e1n (s:={s with heap:=h'}) e c d (by decide) ⟨x,H,I1,ru,⟨rfl,fun ys hy=>by rw[I.list_inj hy hq];exact hx⟩,st',fun b hb=>(hf b hb).1⟩⟩
 done:=by
  intro X hP hw hK hc i pins s σ H E I hf st hg
  subst hP hw hK
  obtain⟨xs,hq,hx⟩:=hg
  obtain⟨its,rv,p,hz⟩:=I.list hq
  obtain⟨f0,f1,f2,f3,f4,f5⟩:=hf it (by simp)
  have hl:=rv.length
  exact wpAny_pyNext_list_end (I.ok.hd hc) st p.isList (by simp;omega) fun h' eb=>⟨rfl,I.turned (t':=s.toks) (fun b o hb e=>eb b o hb e) f0 f1 f3 f4 f5⟩
 self:=fun _ _ _ _ _ st h=>wpAny_pyIter_listiter st h
theorem t0o {P:Program}{w:World}{K:PySem.W.Frag}{tg:Expr}(a it:Addr):Turn P w K tg (Itt K a) [it] it (fun i h=>h.IsTupleIter it a i) where
 mem:=by simp
 obj:=fun i h st b hb=>by
  have e:b=it:=by simpa using hb
  subst e
  obtain⟨o,e,c,d⟩:=st
  exact⟨o,e,fun v z=>by rw[d]at z;cases z⟩
 keep:=fun i h h' st k=>st.at fun o e=>k it (by simp) o e
 item:=by
  intro X hP hw hK hc i pins s σ H E I hf st hg
  subst hP hw hK
  obtain⟨xs,x,hq,hx⟩:=hg
  obtain⟨its,rv,p,hz⟩:=I.tuple hq
  obtain⟨u,hu,ru⟩:=rv.get hx
  obtain⟨f0,f1,f2,f3,f4,f5⟩:=hf it (by simp)
  refine wpAny_pyNext_tuple_item st (show s.heap.IsTuple a its.toArray from p) (x:=u) (by simpa using hu) fun h' st' sb=>?_
  have I1:Inv X pins σ H {s with heap:=h'}:=I.turned (t':=s.toks) (fun b o hb e=>(sb.2 b hb).trans e) f0 f1 f3 f4 f5
  obtain⟨o,e,c,d⟩:=id st'
  exact⟨u,rfl,e1n (s:={s with heap:=h'}) e c d (by decide) ⟨x,H,I1,ru,⟨rfl,fun ys hy=>by rw[I.tuple_inj hy hq];exact hx⟩,st',fun b hb=>(hf b hb).1⟩⟩
 done:=by
  intro X hP hw hK hc i pins s σ H E I hf st hg
  subst hP hw hK
  obtain⟨xs,hq,hx⟩:=hg
  obtain⟨its,rv,p,hz⟩:=I.tuple hq
  obtain⟨f0,f1,f2,f3,f4,f5⟩:=hf it (by simp)
  have hl:=rv.length
  exact wpAny_pyNext_tuple_end (I.ok.hd hc) st (show s.heap.IsTuple a its.toArray from p) (by simp;omega) fun h' eb=>⟨rfl,I.turned (t':=s.toks) (fun b o hb e=>eb b o hb e) f0 f1 f3 f4 f5⟩
 self:=fun _ _ _ _ _ st h=>wpAny_pyIter_tupleiter st h
theorem t0p {P:Program}{w:World}{K:PySem.W.Frag}{tg:Expr}(it:Addr)(lo:Int)(n:Nat):Turn P w K tg (Itr lo n) [it] it (fun i h=>IsRangeIter h it (lo+(i:Nat)*1) ((n:Int) - (i:Nat)) 1) where
 mem:=by simp
 obj:=fun i h st b hb=>by
  have e:b=it:=by simpa using hb
  subst e
  exact⟨_,st,fun v z=>by
   have z':Data.fields _=Data.cell v:=z
   cases z'⟩
 keep:=fun i h h' st k=>k it (by simp) _ st
 item:=by
  intro X hP hw hK hc i pins s σ H E I hf st hg
  subst hP hw hK
  obtain⟨f0,f1,f2,f3,f4,f5⟩:=hf it (by simp)
  have W:=Walks.range (prog:=X.prog) (w:=X.w) (I.ok.hd hc) it lo 1 n
  refine W.item i s _ _ hg st fun v h' tk hv st' kk=>?_
  obtain⟨t,rfl⟩:=hv
  have I1:Inv X pins σ H {s with heap:=h',toks:=tk}:=I.turned (fun b o hb e=>kk b o (by simpa using hb) e) f0 f1 f3 f4 f5
  refine⟨_,rfl,e1n (s:={s with heap:=h',toks:=tk}) (n := "range_iterator") st' rfl rfl (by decide) ⟨.int (lo+i),H,I1,⟨t,?_⟩,⟨rfl,rfl⟩,st',fun b hb=>(hf b hb).1⟩⟩
  rw[Int.mul_one]
 done:=by
  intro X hP hw hK hc i pins s σ H E I hf st hg
  subst hP hw hK
  obtain⟨f0,f1,f2,f3,f4,f5⟩:=hf it (by simp)
  exact wpAny_pyNext_range_end (I.ok.hd hc) st (by have:n<=i:=hg;omega) fun h' eb=>⟨rfl,I.turned (t':=s.toks) (fun b o hb e=>eb b o hb e) f0 f1 f3 f4 f5⟩
 self:=fun _ _ _ _ _ st h=>wpAny_pyIter_rangeiter st h
section
variable {X:Cx}{tg:Expr}
theorem z0n {pins:List (Addr×Obj)}{σ:St}{H:Hp}{s:Shared}{R:It->Hp->Prop}{E:Value->Shared->Prop}{lo hi:Int}{t u v:Tok}{tk:Nat}(I:Inv X pins σ H s)(h1:-(2^62)<=lo)(h2:lo<2^62)(h3:-(2^62)<=hi)(h4:hi<2^62)
  (q:R (Itr lo (hi - lo).toNat) H):wpAny (model X.prog X.w) X.A (pyIter (.ref s.heap.objs.size)) (PIE X pins σ tg R) E {s with heap:=s.heap.push {cls:=.type "range",data:=.fields #[.int lo t,.int hi u,.int 1 v]},toks:=tk}:=by
 refine wpAny_pyIter_range (IsRange.new ..) (small_one h1 h2 h3 h4) ?_
 have I1:Inv X pins σ H {s with heap:=s.heap.push {cls:=.type "range",data:=.fields #[.int lo t,.int hi u,.int 1 v]},toks:=tk}:=I.kept fun b o e=>Heap.get?_push_of_some _ e
 refine⟨(s.heap.push {cls:=.type "range",data:=.fields #[.int lo t,.int hi u,.int 1 v]}).objs.size,[(s.heap.push {cls:=.type "range",data:=.fields #[.int lo t,.int hi u,.int 1 v]}).objs.size],_,_,H,rfl,
  I1.kept (t':=tk) fun b o e=>Heap.get?_push_of_some _ e,t0p _ lo (hi - lo).toNat,?_,fun b hb=>?_,q⟩
 ·have e1:lo+((0:Nat):Int)*1=lo:=by simp
  have e2:(((hi - lo).toNat:Nat):Int) - ((0:Nat):Int)=Builtin.Range.rangeSize lo hi 1:=by rw[rangeSize_one];split <;> omega
  show IsRangeIter _ _ (lo+((0:Nat):Int)*1) ((((hi - lo).toNat:Nat):Int) - ((0:Nat):Int)) 1
  rw[e1,e2]
  exact Heap.get?_push_size _ rfl
 ·have e:b=(s.heap.push {cls:=.type "range",data:=.fields #[.int lo t,.int hi u,.int 1 v]}).objs.size:=by simpa using hb
  subst e
  exact I1.fpOk (Nat.le_refl _) (I1.hok.fresh (Nat.le_refl _))
def h1w (ta:TA):TI:=fun σ H R=>ta σ H fun vs H1=>∃j:Int,vs=[.int j]/\-(2^62)<=j/\j<2^62/\R (Itr 0 j.toNat) H1
theorem d0w {a:Expr}{ta:TA}{p pos:Pos}(hg:Gl X "range")(hm:X.mg "range" = none)(ha:PA X [a] ta)(hs:starEach [a] X.env=[(false,eval a X.env)]:=by rfl):PI X tg (.Call (.Name "range" p) [a] [] pos) (h1w ta):=by
 intro pins s σ H R I h
 refine Call_ (l0r I hg hm boot_range (PyProof.Rows.callWith_type1 (thn (ha pos pins s σ H _ I h) fun us s1 ⟨vs,H1,I1,r1,q1⟩=>?_) hs rfl))
 obtain⟨j,e,q1,q2,q⟩:=q1
 subst e
 cases r1 with
 | cons r rr =>
  cases rr
  obtain⟨t,rfl⟩:=r
  exact call_range_1 (z0n I1 (by omega) (by omega) q1 q2 (by simpa using q))
def tFor (wi:TI)(g:TG)(tb:TS):TS:=fun D σ H=>wi σ H fun J H1=>∃W:Nat->Nat->St->Hp->Prop,(∃m,W 0 m σ H1)/\∀i m σ H,W i m σ H ->
 (J.stop i H/\D.nx σ H)∨(J.go i H/\∃N:St->Hp->Prop,(∀ σ' H',N σ' H'->∃m',m'<m/\W (i+1) m' σ' H')/\∀x H',J.yld i H x H'->g x σ H' fun σ2 H2=>tb {D with nx:=N,ct:=N,bk:=D.nx} σ2 H2)
def g0f (fp:List Addr)(h:Heap):List (Addr×Obj):=fp.filterMap fun b=>(h.get? b).map fun o=>(b,o)
theorem c0l {fp:List Addr}{h:Heap}{b:Addr}{o:Obj}(hb:b∈fp)(e:h.get? b=some o):(b,o)∈g0f fp h:=List.mem_filterMap.mpr ⟨b,hb,by rw[e];rfl⟩
theorem o0t {fp:List Addr}{h:Heap}{p:Addr×Obj}(hp:p∈g0f fp h):p.1∈fp/\h.get? p.1=some p.2:=by
 obtain⟨b,hb,e⟩:=List.mem_filterMap.mp hp
 cases q:h.get? b with
 | none=>rw[q]at e;cases e
 | some o =>
  rw[q]at e
  have e':(b,o)=p:=Option.some.inj e
  subst e'
  exact⟨hb,q⟩
theorem Inv.pinned {pins:List (Addr×Obj)}{σ:St}{H:Hp}{s:Shared}{fp:List Addr}(I:Inv X pins σ H s)(hf:∀b∈fp,FpOk X pins H b)(ho:∀b∈fp,∃o,s.heap.get? b=some o/\∀v,o.data ≠ .cell v):Inv X (pins++g0f fp s.heap) σ H s :=
 I.pins_of fun p hp=>(List.mem_append.mp hp).elim (fun z=>I.pin p (List.mem_append_right _ z)) fun z=>by
  obtain⟨hb,e⟩:=o0t z
  obtain⟨f0,f1,f2,_⟩:=hf p.1 hb
  obtain⟨o,e',d⟩:=ho p.1 hb
  rw[e]at e';cases e'
  exact⟨e,f0,f1,f2,d⟩
theorem Inv.unpinned {pins pl:List (Addr×Obj)}{σ:St}{H:Hp}{s:Shared}(I:Inv X (pins++pl) σ H s):Inv X pins σ H s:=I.pins_of fun p hp=>I.pin p (List.mem_append_right _ (List.mem_append_left _ hp))
theorem g0e {iter:Expr}{body:List Stmt}{wi:TI}{g:TG}{tb:TS}{pos:Pos}(hp:PassesOwn (model X.prog X.w) X.A X.env X.xe)(hc:X.calm=true)(hi:PI X tg iter wi)(hg:PG X tg g)(hb:PSs X body tb)
  (hs:∀x,foldedSetIterable iter X.env x=pure x:=by intro _;rfl):PS X (.For tg iter body [] pos) (tFor wi g tb):=by
 intro pins s σ H D I h
 refine wpAny_For (thn (hi pins s σ H _ I h) fun v s1 h1=>thn h1 fun itv s2 h2=>?_) hs
 obtain⟨it,fp,tn,J,H2,e,I2,T,st2,f2,W,⟨m0,w0⟩,turn⟩:=h2
 subst e
 have stat:∀ {H':Hp},(∀b∈fp,H' b=none)->∀b∈fp,FpOk X pins H' b:=fun hn b hb=>⟨hn b hb,(f2 b hb).2⟩
 refine codeAny_forLoop_any (fun n s'=>∃i σ' H',Inv X pins σ' H' s'/\tn i s'.heap/\(∀b∈fp,H' b=none)/\W i n σ' H') ?_ m0 ⟨0,σ,H2,I2,st2,fun b hb=>(f2 b hb).1,w0⟩
 rintro n s3 ⟨i,σ3,H3,I3,st3,fr3,w3⟩
 rcases turn i n σ3 H3 w3 with⟨stop,qn⟩ | ⟨go,N,hN,step⟩
 ·refine wpAny_passesOwn hp (thn (T.done X rfl rfl rfl hc i pins s3 σ3 H3 X.xe I3 (stat fr3) st3 stop) fun r s4 ⟨hr,I4⟩=>?_)
  subst hr
  exact wpAny_execs_nil ⟨σ3,H3,I4,qn⟩
 ·refine wpAny_passesOwn hp (thn (T.item X rfl rfl rfl hc i pins s3 σ3 H3 X.xe I3 (stat fr3) st3 go) fun r s4 ⟨u,hr,h4⟩=>?_)
  subst hr
  refine wpAny_passesOwn hp (thn h4 fun _ s5 ⟨x,H5,I5,r5,y5,st5,fr5⟩=>?_)
  have I5':=I5.pinned (stat fr5) (T.obj _ _ st5)
  refine wpAny_passesOwn hp (thn (hg _ s5 σ3 H5 x u _ I5' r5 (step x H5 y5)) fun _ s6 ⟨σ6,H6,I6,q6⟩=>?_)
  refine wpAny_passesOwn hp (thn (hb _ s6 σ6 H6 _ I6 q6) fun f s7 q7=>?_)
  have again:∀ {σ7:St} {H7:Hp},Inv X (pins++g0f fp s5.heap) σ7 H7 s7->N σ7 H7->∃m,m<n/\∃i σ' H',Inv X pins σ' H' s7/\tn i s7.heap/\(∀b∈fp,H' b=none)/\W i m σ' H':=fun{σ7 H7} I7 n7=>by
   obtain⟨m',hm,w7⟩:=hN σ7 H7 n7
   refine⟨m',hm,i+1,σ7,H7,I7.unpinned,T.keep _ _ _ st5 fun b hb o e=>(I7.pin (b,o) (List.mem_append_right _ (List.mem_append_right _ (c0l hb e)))).1,fun b hb=>?_,w7⟩
   obtain⟨o,e,d⟩:=T.obj _ _ st5 b hb
   exact(I7.pin (b,o) (List.mem_append_right _ (List.mem_append_right _ (c0l hb e)))).2.1
  cases f with
  | next=>obtain⟨σ7,H7,I7,n7⟩:=q7;exact again I7 n7
  | cont=>obtain⟨σ7,H7,I7,n7⟩:=q7;exact again I7 n7
  | brk=>obtain⟨σ7,H7,I7,q7⟩:=q7;exact⟨σ7,H7,I7.unpinned,q7⟩
  | ret v=>obtain⟨x7,σ7,H7,I7,r7,q7⟩:=q7;exact⟨x7,σ7,H7,I7.unpinned,r7,q7⟩
end
abbrev R2:=V->V->Hp->VK->Prop
def OpR (X:Cx)(f:Value->Value->Sem Value)(r:R2):Prop :=
 ∀(pins:List (Addr×Obj)) (s:Shared) (σ:St) (H:Hp) (x y:V) (v u:Value) (Q:VK),Inv X pins σ H s->RelV x v->RelV y u->r x y H Q ->
  wpAny (model X.prog X.w) X.A (f v u) (EP X pins σ Q) X.xe s
def UnR (X:Cx)(f:Value->Sem Value)(r:V->Hp->VK->Prop):Prop :=
 ∀(pins:List (Addr×Obj)) (s:Shared) (σ:St) (H:Hp) (x:V) (v:Value) (Q:VK),Inv X pins σ H s->RelV x v->r x H Q ->
  wpAny (model X.prog X.w) X.A (f v) (EP X pins σ Q) X.xe s
def i0a (X:Cx)(f:Value)(r:List V->Hp->VK->Prop):Prop :=
 ∀(pins:List (Addr×Obj)) (s:Shared) (σ:St) (H:Hp) (xs:List V) (us:List Value) (Q:VK),Inv X pins σ H s->Vals xs us->r xs H Q ->
  wpAny (model X.prog X.w) X.A (call f us) (EP X pins σ Q) X.xe s
def TruR (X:Cx)(r:V->Hp->(Bool->Hp->Prop)->Prop):Prop :=
 ∀(pins:List (Addr×Obj)) (s:Shared) (σ:St) (H:Hp) (x:V) (v:Value) (Q:Bool->Hp->Prop),Inv X pins σ H s->RelV x v->r x H Q ->
  wpAny (model X.prog X.w) X.A (truthy v) (TP X pins σ Q) X.xe s
def tOp (r:R2)(ta tb:TE):TE:=fun σ H Q=>ta σ H fun x H1=>tb σ H1 fun y H2=>r x y H2 Q
def tUn (r:V->Hp->VK->Prop)(ta:TE):TE:=fun σ H Q=>ta σ H fun x H1=>r x H1 Q
def rI (C:Int->Int->Prop)(g:Int->Int->V):R2:=fun x y H Q=>∃i j,x = .int i/\y = .int j/\C i j/\Q (g i j) H
def rI0 (g:Int->Int->V):R2:=fun x y H Q=>∃i j,x = .int i/\y = .int j/\Q (g i j) H
def rU (g:Int->V):V->Hp->VK->Prop:=fun x H Q=>∃i,x = .int i/\Q (g i) H
section
variable {X:Cx}{a b c:Expr}{ta tb tc:TE}{pos:Pos}
theorem binT (ha:PE X a ta)(hb:PE X b tb){pins:List (Addr×Obj)}{s:Shared}{σ:St}{H:Hp}{R:V->V->Hp->Prop}(I:Inv X pins σ H s)
  (h:ta σ H fun x H1=>tb σ H1 fun y H2=>R x y H2) {Q:Value->Shared->Prop} {f:Value->Value->Sem Value}
  (hf:∀v u s2 x y H2,Inv X pins σ H2 s2->RelV x v->RelV y u->R x y H2->wpAny (model X.prog X.w) X.A (f v u) Q X.xe s2) :
  wpAny (model X.prog X.w) X.A (eval a X.env) (fun v s₁=>wpAny (model X.prog X.w) X.A (eval b X.env) (fun u s₂=>wpAny (model X.prog X.w) X.A (f v u) Q X.xe s₂) X.xe s₁) X.xe s:=by
 refine thn (ha pins s σ H _ I h) fun v s1 ⟨x,H1,I1,r1,q1⟩=>?_
 refine thn (hb pins s1 σ H1 _ I1 q1) fun u s2 ⟨y,H2,I2,r2,q2⟩=>?_
 exact hf v u s2 x y H2 I2 r1 r2 q2
theorem b0d {op:Operator}{r:R2}(ho:OpR X (binaryOp op) r)(ha:PE X a ta)(hb:PE X b tb):PE X (.BinOp a op b pos) (tOp r ta tb):=by
 intro pins s σ H Q I h
 exact wpAny_BinOp (binT ha hb I h fun v u s2 x y H2 I2 rx ry q=>ho pins s2 σ H2 x y v u Q I2 rx ry q)
theorem j1b {op:UnaryOp}{r:V->Hp->VK->Prop}(ho:UnR X (unaryOp op) r)(ha:PE X a ta):PE X (.UnaryOp op a pos) (tUn r ta):=by
 intro pins s σ H Q I h
 exact UnaryOp_ (thn (ha pins s σ H _ I h) fun v s1 ⟨x,H1,I1,r1,q1⟩=>ho pins s1 σ H1 x v Q I1 r1 q1)
theorem opI {f:Value->Value->Sem Value}{C:Int->Int->Prop}{g:Int->Int->Int}
  (rule:∀(i j:Int) (t u:Tok) (s:Shared) (Q:Value->Shared->Prop) (E:Value->Shared->Prop),C i j->Q (.int (g i j) s.toks) {s with toks:=s.toks+1}->wpAny (model X.prog X.w) X.A (f (.int i t) (.int j u)) Q E s) :
  OpR X f (rI C fun i j=>.int (g i j)):=by
 intro pins s σ H x y v u Q I rx ry h
 obtain⟨i,j,rfl,rfl,hc,q⟩:=h
 obtain⟨t,rfl⟩:=rx
 obtain⟨t',rfl⟩:=ry
 exact rule i j t t' s _ _ hc ⟨.int (g i j),H,I.tok _,⟨_,rfl⟩,q⟩
theorem opI0 {f:Value->Value->Sem Value}{g:Int->Int->Int}
  (rule:∀(i j:Int) (t u:Tok) (s:Shared) (Q:Value->Shared->Prop) (E:Value->Shared->Prop),Q (.int (g i j) s.toks) {s with toks:=s.toks+1}->wpAny (model X.prog X.w) X.A (f (.int i t) (.int j u)) Q E s) :
  OpR X f (rI0 fun i j=>.int (g i j)):=by
 intro pins s σ H x y v u Q I rx ry h
 obtain⟨i,j,rfl,rfl,q⟩:=h
 obtain⟨t,rfl⟩:=rx
 obtain⟨t',rfl⟩:=ry
 exact rule i j t t' s _ _ ⟨.int (g i j),H,I.tok _,⟨_,rfl⟩,q⟩
theorem opB0 {f:Value->Value->Sem Value}{g:Int->Int->Bool}
  (rule:∀(i j:Int) (t u:Tok) (s:Shared) (Q:Value->Shared->Prop) (E:Value->Shared->Prop),Q (.bool (g i j)) s->wpAny (model X.prog X.w) X.A (f (.int i t) (.int j u)) Q E s) :
  OpR X f (rI0 fun i j=>.bl (g i j)):=by
 intro pins s σ H x y v u Q I rx ry h
 obtain⟨i,j,rfl,rfl,q⟩:=h
 obtain⟨t,rfl⟩:=rx
 obtain⟨t',rfl⟩:=ry
 exact rule i j t t' s _ _ ⟨.bl (g i j),H,I,rfl,q⟩
def CPow (i j:Int):Prop:=0<=j/\j<=1000000/\i.natAbs<2^64
def CMul (i j:Int):Prop:=(-(2^64)<i/\i<2^64)∨(-(2^64)<j/\j<2^64)
theorem CMul.ok {i j:Int}(h:CMul i j):IntMulOk i j:=by
 rcases h with⟨h1,h2⟩ | ⟨h1,h2⟩
 ·exact .of_left (intBits_le_64 h1 h2)
 ·exact .of_right (intBits_le_64 h1 h2)
theorem t0n (k:Nat):(0:Int)<=2^k:=by
 rw[two_pow_cast]
 exact Int.natCast_nonneg _
theorem c0w:OpR X (binaryOp .Add) (rI0 fun i j=>.int (i+j)):=opI0 fun _ _ _ _ _ _ _ q=>add_int q
theorem l0m:OpR X (binaryOp .Sub) (rI0 fun i j=>.int (i - j)):=opI0 fun _ _ _ _ _ _ _ q=>sub_int q
theorem o0l:OpR X (binaryOp .Mult) (rI CMul fun i j=>.int (i*j)):=opI fun _ _ _ _ _ _ _ hc q=>mul_int q hc.ok
theorem j0w:OpR X (binaryOp .Mod) (rI (fun _ j=>0<j) fun i j=>.int (i % j)):=opI fun i j _ _ _ _ _ hc q=>by
 have h1:(0:Int)<j:=hc
 exact mod_int' (by omega) (by rw[Int.fmod_eq_emod_of_nonneg i (by omega)];exact q)
theorem w0o:OpR X (binaryOp .Pow) (rI CPow fun i j=>.int (i^j.toNat)):=opI fun _ _ _ _ _ _ _ hc q=>pow_int_small hc.1 hc.2.1 hc.2.2 q
theorem l0n:OpR X (binaryOp .LShift) (rI CPow fun i j=>.int (i*2^j.toNat)):=opI fun _ _ _ _ _ _ _ hc q=>lshift_int_small hc.1 hc.2.1 hc.2.2 q
theorem w0n:OpR X (binaryOp .RShift) (rI (fun _ j=>0<=j) fun i j=>.int (i / 2^j.toNat)):=opI fun i j _ _ _ _ _ hc q =>
 rshift_int hc (by rw[Int.fdiv_eq_ediv_of_nonneg i (t0n _)];exact q)
theorem s0m:OpR X (binaryOp .BitAnd) (rI0 fun i j=>.int (Builtin.bitAnd i j)):=opI0 fun _ _ _ _ _ _ _ q=>and_int q
theorem b1x:OpR X (binaryOp .BitXor) (rI0 fun i j=>.int (Builtin.bitXor i j)):=opI0 fun _ _ _ _ _ _ _ q=>xor_int q
theorem unI {f:Value->Sem Value}{g:Int->Int}
  (rule:∀(i:Int) (t:Tok) (s:Shared) (Q:Value->Shared->Prop) (E:Value->Shared->Prop),Q (.int (g i) s.toks) {s with toks:=s.toks+1}->wpAny (model X.prog X.w) X.A (f (.int i t)) Q E s) :
  UnR X f (rU fun i=>.int (g i)):=by
 intro pins s σ H x v Q I rx h
 obtain⟨i,rfl,q⟩:=h
 obtain⟨t,rfl⟩:=rx
 exact rule i t s _ _ ⟨.int (g i),H,I.tok _,⟨_,rfl⟩,q⟩
theorem f1y:UnR X (unaryOp .USub) (rU fun i=>.int (-i)):=unI fun _ _ _ _ _ q=>neg_int q
end
section
variable {X:Cx}{a b c:Expr}{ta tb tc:TE}{pos:Pos}
theorem c1h {pins:List (Addr×Obj)}{σ:St}{H:Hp}{s:Shared}{Q:VK}{k k':Bool}(I:Inv X pins σ H s)(q:Q (.bl k) H)(e:k=k'):EP X pins σ Q (.bool k') s:=by
 subst e
 exact⟨.bl k,H,I,rfl,q⟩
theorem d1u:OpR X (compareOp .Lt) (rI0 fun i j=>.bl (decide (i<j))):=opB0 fun _ _ _ _ _ _ _ q=>lt_int q
theorem i0f:OpR X (compareOp .Gt) (rI0 fun i j=>.bl (decide (j<i))):=opB0 fun _ _ _ _ _ _ _ q=>gt_int q
theorem j1g:OpR X (compareOp .GtE) (rI0 fun i j=>.bl (decide (j<=i))):=opB0 fun _ _ _ _ _ _ _ q=>ge_int q
theorem b1y:OpR X (compareOp .Is) (fun x y H Q=>y = .non/\Q (.bl (decide (x = .non))) H):=by
 intro pins s σ H x y v u Q I rx ry h
 obtain⟨rfl,q⟩:=h
 cases ry
 refine is_none_gen (c1h I q ?_)
 cases x <;> first
  | (cases rx;rfl)
  | (obtain⟨t,rfl⟩:=rx;rfl)
theorem q0r:OpR X (compareOp .IsNot) (fun x y H Q=>y = .non/\Q (.bl (!decide (x = .non))) H):=by
 intro pins s σ H x y v u Q I rx ry h
 obtain⟨rfl,q⟩:=h
 cases ry
 refine isnot_none_gen (c1h I q ?_)
 cases x <;> first
  | (cases rx;rfl)
  | (obtain⟨t,rfl⟩:=rx;rfl)
theorem b0m (b:Expr){op:CmpOp}(h:op ≠ .In:=by decide)(h2:op ≠ .NotIn:=by decide):behindInMarks op b=false:=by
 have e1:(op==CmpOp.In)=false:=by cases op <;> first | rfl | exact absurd rfl h
 have e2:(op==CmpOp.NotIn)=false:=by cases op <;> first | rfl | exact absurd rfl h2
 cases b <;> simp[behindInMarks,e1,e2]
theorem j0t {op:CmpOp}{r:R2}(ho:OpR X (compareOp op) r)(ha:PE X a ta)(hb:PE X b tb)(hm:behindInMarks op b=false):PE X (.Compare a [op] [b] pos) (tOp r ta tb):=by
 intro pins s σ H Q I h
 exact wpAny_Compare1 (binT ha hb I h fun v u s2 x y H2 I2 rx ry q=>ho pins s2 σ H2 x y v u Q I2 rx ry q) hm
def g1e (t:TE):TT:=fun σ H Q=>t σ H fun x H'=>∃k,x = .bl k/\Q k H'
theorem a0v {op:CmpOp}{r:R2}(ho:OpR X (compareOp op) r)(ha:PE X a ta)(hb:PE X b tb)(hm:behindInMarks op b=false):PT X (.Compare a [op] [b] pos) (g1e (tOp r ta tb)):=by
 intro pins s σ H Q I h
 refine wpAny_isTrue_Compare1 (thn (ha pins s σ H _ I h) fun v s1 ⟨x,H1,I1,r1,q1⟩=>thn (hb pins s1 σ H1 _ I1 q1) fun u s2 ⟨y,H2,I2,r2,q2⟩ =>
  thn (ho pins s2 σ H2 x y v u _ I2 r1 r2 q2) fun c s3 ⟨z,H3,I3,r3,k,e,q3⟩=>?_) hm
 subst e
 cases r3
 exact wpAny_truthy_bool ⟨H3,I3,q3⟩
def TruV (K:PySem.W.Frag)(x:V)(H:Hp)(k:Bool):Prop :=
 match x with
 | .non=>k=false
 | .bl b=>k=b
 | .int i=>k=(i != 0)
 | .str y=>y.length<=sizeLine/\k=((y.length:Int) != 0)
 | .byt y=>y.size<=sizeLine/\k=((y.size:Int) != 0)
 | .ref p=>(∃xs,SqL K H p xs/\k = !xs.isEmpty)∨(∃xs,SqT K H p xs/\k = !xs.isEmpty) ∨ ∃kvs,H p=some (.dK kvs)/\k = !kvs.isEmpty
 | _=>False
theorem u0i {κ:Type}{kvs:List (κ×V)}{vs:List (κ×Value)}(r:KV kvs vs):(!vs.isEmpty) = !kvs.isEmpty:=by
 cases r <;> rfl
theorem l0s {xs:List V}{its:List Value}(r:Vals xs its):(!its.toArray.isEmpty) = !xs.isEmpty:=by
 cases r <;> simp
theorem o0x:(sizeLine:Nat)<2^63:=by rw[sizeLine_eq];decide
theorem g1b:TruR X (fun x H Q=>∃k,TruV X.K x H k/\Q k H):=by
 intro pins s σ H x v Q I rx h
 obtain⟨k,e,q⟩:=h
 have hl:=o0x
 have hs:sizeLine=16777216:=sizeLine_eq
 cases x with
 | non =>
  cases rx
  have e':k=false:=e
  subst e'
  exact truthy_none ⟨H,I,q⟩
 | bl b =>
  cases rx
  have e':k=b:=e
  subst e'
  exact wpAny_truthy_bool ⟨H,I,q⟩
 | int i =>
  obtain⟨t,rfl⟩:=rx
  have e':k=(i != 0):=e
  subst e'
  exact PySem.P.truthy_int ⟨H,I,q⟩
 | str y =>
  obtain⟨t,rfl⟩:=rx
  obtain⟨hy,e'⟩:y.length<=sizeLine/\k=((y.length:Int) != 0):=e
  subst e'
  exact PySem.P.truthy_str (by omega) ⟨H,I.tok _,q⟩
 | byt y =>
  obtain⟨t,rfl⟩:=rx
  obtain⟨hy,e'⟩:y.size<=sizeLine/\k=((y.size:Int) != 0):=e
  subst e'
  exact PySem.W.truthy_bytes (by omega) ⟨H,I.tok _,q⟩
 | ref p =>
  cases rx
  have e':(∃xs,SqL X.K H p xs/\k = !xs.isEmpty)∨(∃xs,SqT X.K H p xs/\k = !xs.isEmpty) ∨ ∃kvs,H p=some (.dK kvs)/\k = !kvs.isEmpty:=e
  rcases e' with⟨xs,hx,e'⟩ | ⟨xs,hx,e'⟩ | ⟨kvs,hx,e'⟩
  ·subst e'
   obtain⟨its,r,pl,hz⟩:=I.list hx
   have hlen:=r.length
   exact wpAny_truthy_list pl.isList (by simp only[List.size_toArray];omega) ⟨H,I.tok _,by rw[l0s r];exact q⟩
  ·subst e'
   obtain⟨its,r,pl,hz⟩:=I.tuple hx
   have hlen:=r.length
   exact truthy_tuple pl (by simp only[List.size_toArray];omega) ⟨H,I.tok _,by rw[l0s r];exact q⟩
  ·subst e'
   obtain⟨hz,hS,vs,r,m⟩:kvs.length<=sizeLine/\(p==sysModules)=false/\∃vs,KV kvs vs/\s.heap.DictOf (c0g X.prog X.w) p vs:=I.hok p _ hx
   have hlen:kvs.length=vs.length:=Paired.length r
   exact wpAny_truthy_dict hS m (by omega) ⟨H,I.tok _,by rw[u0i r];exact q⟩
 | _=>exact(show False from e).elim
theorem z0p (ha:PE X a ta)(he:∀whole,isTrue a X.env whole=(do let v <- whole;standAt a.pos;holding [v] (truthy v))) :
  PT X a (fun σ H Q=>ta σ H fun x H'=>∃k,TruV X.K x H' k/\Q k H'):=by
 intro pins s σ H Q I h
 exact isTrue_plain (thn (ha pins s σ H _ I h) fun v s1 ⟨x,H1,I1,r1,q1⟩=>g1b pins s1 σ H1 x v Q I1 r1 q1) (he _)
theorem m0d {x:V}{us:List Value}(r:Vals [x] us):∃u,us=[u]/\RelV x u:=by
 cases r with
 | cons r1 r2=>cases r2;exact⟨_,rfl,r1⟩
theorem c1w {x y:V}{us:List Value}(r:Vals [x,y] us):∃u w',us=[u,w']/\RelV x u/\RelV y w':=by
 cases r with
 | cons r1 r2 =>
  cases r2 with
  | cons r3 r4=>cases r4;exact⟨_,_,rfl,r1,r3⟩
theorem y0i (hc:X.calm=true):i0a X (.builtin "max") (fun xs H Q=>∃i j,xs=[.int i,.int j]/\Q (.int (if j > i then j else i)) H):=by
 intro pins s σ H xs us Q I r h
 obtain⟨i,j,rfl,q⟩:=h
 obtain⟨u,w',rfl,⟨t,rfl⟩,⟨t',rfl⟩⟩:=c1w r
 refine max_two_ints (I.ok.hd hc) fun h' tk k=>⟨_,H,I.kept k,?_,q⟩
 by_cases hj:j > i
 ·rw[if_pos hj,if_pos hj];exact⟨_,rfl⟩
 ·rw[if_neg hj,if_neg hj];exact⟨_,rfl⟩
theorem y0j:i0a X (.type "int") (fun xs H Q=>(∃i,xs=[.int i]/\Q (.int i) H) ∨ ∃k,xs=[.bl k]/\Q (.int (if k then 1 else 0)) H):=by
 intro pins s σ H xs us Q I r h
 rcases h with⟨i,rfl,q⟩ | ⟨k,rfl,q⟩
 ·obtain⟨u,rfl,t,rfl⟩:=m0d r
  exact call_int_int ⟨.int i,H,I,⟨_,rfl⟩,q⟩
 ·obtain⟨u,rfl,r1⟩:=m0d r
  cases r1
  exact call_int_bool ⟨.int (if k then 1 else 0),H,I.tok _,⟨_,rfl⟩,q⟩
end
structure ObjM (h:Heap)(x dx C:Addr)(mA:Str->Option Value):Prop where
 obj:h.get? x=some (PySem.W.instObj C dx)
 ns:h.Ns1 dx mA
 ne:dx≠x
theorem w0t {h:Heap}{dx:Addr}{mA:Str->Option Value}(n:h.Ns1 dx mA):∃od,h.get? dx=some od/\∀name,PySem.W.lookIn name od=some (mA name):=by
 obtain⟨o,es,ep,ho,hd,hk,_,hm⟩:=n
 refine⟨o,ho,fun name=>?_⟩
 have e:=hm name
 unfold nsFind findBy at e
 rw[<- Array.find?_toList]at e
 unfold PySem.W.lookIn
 rw[hd]
 dsimp only
 split
 ·rename_i y q
  rw[q]at e
  exact congrArg some e
 ·rename_i q
  rw[q]at e
  have a:es.toList.any (·.refKey)=false:=by
   rw[List.any_eq_false]
   intro y hy
   obtain⟨z,t,hkey⟩:=hk y (Array.mem_toList_iff.mp hy)
   simp[DictEntry.refKey,hkey]
  have a':¬es.toList.any (·.refKey)=true:=by rw[a];exact Bool.false_ne_true
  rw[if_neg a']
  exact congrArg some e
theorem ObjM.look {h:Heap}{x dx C:Addr}{mA:Str->Option Value}(I:ObjM h x dx C mA):∃od,PySem.W.InstAt h x (PySem.W.instObj C dx) C (some od)/\∀name,PySem.W.lookIn name od=some (mA name) :=
 let ⟨od,ho,hl⟩:=w0t I.ns
 ⟨od,⟨I.obj,rfl,rfl,ho⟩,hl⟩
theorem RelO.some_of {v:V}{o:Option Value}(r:RelO (some v) o):∃u,o=some u/\RelV v u:=by
 cases o with
 | none=>exact(show False from r).elim
 | some u=>exact⟨u,rfl,r⟩
section
variable {P:Program}{w:World}{H H':Hp}{h h':Heap}{a C dx:Addr}{fs fs':List (Str×V)}
theorem e1j (hok:HOk P w H h)(e:H a=some (.ins C dx fs)):∃mA,ObjM h a dx C mA/\(∀f,RelO (fs.lookup f) (mA f))/\PySem.Within mA (fs.map (·.1))/\fs.length<=1000/\H dx=some (.own a):=by
 obtain⟨d,z,ne,ob,mA,n,r,q⟩:=(show c0s P w H h a (.ins C dx fs)from hok a _ e)
 exact⟨mA,⟨ob,n,ne⟩,r,q,z,d⟩
end
structure Cls (K:PySem.W.Frag)(C:Addr):Prop where
 pg:PySem.W.plainGet K C Str.empty=true
 hd:PySem.W.hasDictIn K C=true
 po:PySem.W.plainOver K C=true
 sa:PySem.W.findIn K (.ref C) "__setattr__" = some (some (.builtin "object.__setattr__"))
theorem Cls.get {K:PySem.W.Frag}{C:Addr}(c:Cls K C)(f:Str):PySem.W.plainGet K C f=true:=c.pg
section
variable {X:Cx}{pins:List (Addr×Obj)}{σ:St}{H:Hp}{s:Shared}{A:Around}{E:Value->Shared->Prop}{Q:Value->Shared->Prop}{c:Value}{b:Bool}
inductive TyOf (K:PySem.W.Frag) (H:Hp):V->Value->Prop where
 | non:TyOf K H .non (.type "NoneType")
 | bl (x:Bool):TyOf K H (.bl x) (.type "bool")
 | int (i:Int):TyOf K H (.int i) (.type "int")
 | str (x:Str):TyOf K H (.str x) (.type "str")
 | flt (x:UInt64):TyOf K H (.flt x) (.type "float")
 | lst {a:Addr} {xs:List V} (e:H a=some (.lst xs)):TyOf K H (.ref a) (.type "list")
 | frz {a:Addr} {o:Obj} {xs:List V} (e:H a=some (.frz o (.lst xs))):TyOf K H (.ref a) (.type "list")
 | tup {a:Addr} {xs:List V} (e:H a=some (.tup xs)):TyOf K H (.ref a) (.type "tuple")
 | dK {a:Addr} {kvs:List (Key×V)} (e:H a=some (.dK kvs)):TyOf K H (.ref a) (.type "dict")
 | dT {a:Addr} {kvs:List (List Key×V)} (e:H a=some (.dT kvs)):TyOf K H (.ref a) (.type "dict")
 | ins {a C dx:Addr} {fs:List (Str×V)} (e:H a=some (.ins C dx fs)) (cl:Cls K C) (ha:PySem.W.findIn K (.ref C) "__class__" = some (some (.builtin "object.__class__")))
   (hn:PySem.W.specialIn K (.builtin "object.__class__") "__get__" = some (some (.builtin "getset_descriptor.__get__"))) (htk:PySem.W.takesIn K (.builtin "object.__class__")=some true)
   (hm:PySem.W.mroIn K C (.type "object")=some true):TyOf K H (.ref a) (.ref C)
theorem h0t {x:V}{u t:Value}(I:Inv X pins σ H s)(rx:RelV x u)(ty:TyOf X.K H x t)(e:PySem.W.kitOne X.K t c=some b)(h:∀tk,Q (.bool b) {s with toks:=tk}) :
  wpAny (model X.prog X.w) A (call (.builtin "isinstance") [u,c]) Q E s:=by
 cases ty with
 | non=>cases (show u=Value.none from rx);exact PySem.W.kia_one PySem.W.kitx_none I.kIn True.intro e (fun z=>nomatch z) h
 | bl y=>cases (show u=Value.bool y from rx);exact PySem.W.kia_one PySem.W.kitx_bool I.kIn True.intro e (fun z=>nomatch z) h
 | int i=>obtain⟨t,q⟩:=(show ∃t,u=Value.int i t from rx);cases q;exact PySem.W.kia_one PySem.W.kitx_int I.kIn True.intro e (fun z=>nomatch z) h
 | str y=>obtain⟨t,q⟩:=(show ∃t,u=Value.str y t from rx);cases q;exact PySem.W.kia_one PySem.W.kitx_str I.kIn True.intro e (fun z=>nomatch z) h
 | flt y=>obtain⟨t,q⟩:=(show ∃t,u=Value.float y t from rx);cases q;exact PySem.W.kia_one PySem.W.kitx_float I.kIn True.intro e (fun z=>nomatch z) h
 | @lst a xs ea =>
  cases (show u=Value.ref a from rx)
  obtain⟨_,_,n,_,h1⟩:=(show c0s X.prog X.w H s.heap a (.lst xs)from I.hok a _ ea)
  exact PySem.W.kia_one PySem.W.kitx_list I.kIn ⟨_,h1,rfl⟩ e (fun z=>nomatch z) h
 | @frz a ob xs ea =>
  cases (show u=Value.ref a from rx)
  obtain⟨_,_,_,n,_,h1⟩:=(show c0s X.prog X.w H s.heap a (.frz ob (.lst xs))from I.hok a _ ea)
  exact PySem.W.kia_one PySem.W.kitx_list I.kIn ⟨_,h1,rfl⟩ e (fun z=>nomatch z) h
 | @tup a xs ea =>
  cases (show u=Value.ref a from rx)
  obtain⟨_,_,_,p⟩:=(show c0s X.prog X.w H s.heap a (.tup xs)from I.hok a _ ea)
  obtain⟨o,h1,h2,_⟩:=p
  exact PySem.W.kia_one PySem.W.kitx_tuple I.kIn ⟨o,h1,h2⟩ e (fun z=>nomatch z) h
 | @dK a kvs ea =>
  cases (show u=Value.ref a from rx)
  obtain⟨_,_,vs,_,p⟩:=(show c0s X.prog X.w H s.heap a (.dK kvs)from I.hok a _ ea)
  obtain⟨o,es,ep,h1,h2,_⟩:=p
  exact PySem.W.kia_one PySem.W.kitx_dict I.kIn ⟨o,h1,h2.1⟩ e (fun z=>nomatch z) h
 | @dT a kvs ea =>
  cases (show u=Value.ref a from rx)
  obtain⟨_,_,xs,_,o,es,ep,h1,h2,_⟩:=(show c0s X.prog X.w H s.heap a (.dT kvs)from I.hok a _ ea)
  exact PySem.W.kia_one PySem.W.kitx_dict I.kIn ⟨o,h1,h2.1⟩ e (fun z=>nomatch z) h
 | @ins a C dx fs ea cl ha hn htk hm =>
  cases (show u=Value.ref a from rx)
  obtain⟨mA,O,_⟩:=e1j I.hok ea
  obtain⟨od,J,_⟩:=O.look
  exact PySem.W.kia_one (PySem.W.kitx_own (cl.get _) cl.hd ha hn htk hm) I.kIn J e (fun z=>nomatch z) h
end
structure Room (k:Nat)(A:Around):Prop where
 hd:A.handled=none
 dp:A.depth+3*k+5<recursionLimit
 un:A.units+16*k+200<cLine
theorem Room.mono {j k:Nat}{A:Around}(r:Room k A)(h:j<=k):Room j A:=⟨r.hd,by have:=r.dp;omega,by have:=r.un;omega⟩
theorem Room.deeper {k:Nat}{A:Around}(r:Room (k+1) A)(env:Env):Room k (A.deeper env) :=
 ⟨r.hd,by have:=r.dp;show A.depth+1+3*k+5<_;omega,by have:=r.un;show A.units+3+16*k+200<_;omega⟩
theorem Room.depth {k:Nat}{A:Around}(r:Room k A):A.depth<recursionLimit:=by have:=r.dp;omega
theorem Room.units {k:Nat}{A:Around}(r:Room k A):A.units+64<cLine:=by have:=r.un;omega
def tNil:TA:=fun _ H Q=>Q [] H
def z0g (ta:TE)(tr:TA):TA:=fun σ H Q=>ta σ H fun x H1=>tr σ H1 fun xs H2=>Q (x::xs) H2
section
variable {X:Cx}{e:Expr}{es:List Expr}{te:TE}{t:TA}{pos:Pos}
theorem a0e:PA X [] tNil:=fun _ _ _ _ H Q I h=>Calls.spliced_nil ⟨[],H,I,.nil,h⟩
theorem a0b (ha:PE X e te)(hr:PA X es t)(hs:starEach (e::es) X.env=(false,eval e X.env)::starEach es X.env:=by rfl):PA X (e::es) (z0g te t):=by
 intro pos pins s σ H Q I h
 rw[hs]
 show wpAny _ _ (spliced ((false,eval e X.env)::backTo pos (starEach es X.env))) _ _ s
 refine Calls.spliced_cons (thn (ha pins s σ H _ I h) fun u s1 ⟨x,H1,I1,r1,q1⟩=>?_)
 exact thn (hr pos pins s1 σ H1 _ I1 q1) fun us s2 ⟨xs,H2,I2,r2,q2⟩=>⟨x::xs,H2,I2,.cons r1 r2,q2⟩
def tTup (t:TA):TE:=fun σ H Q=>t σ H fun xs H1=>xs.length<=sizeLine/\∀p,H1 p=none->Q (.ref p) (upd H1 p (.tup xs))
def tLst (t:TA):TE:=fun σ H Q=>t σ H fun xs H1=>xs.length<=sizeLine/\∀p,H1 p=none->Q (.ref p) (upd H1 p (.lst xs))
theorem d0j {x1}(h:PA X es t):PE X (.Tuple es x1 pos) (tTup t):=by
 intro pins s σ H Q I hq
 refine wpAny_Tuple_spliced (thn (h pos pins s σ H _ I hq) fun us s1 ⟨xs,H1,I1,r,z,q⟩=>⟨by rw[<- r.length];exact z,?_⟩)
 have hf:H1 s1.heap.objs.size=none:=I1.hok.fresh (Nat.le_refl _)
 refine⟨.ref s1.heap.objs.size,upd H1 s1.heap.objs.size (.tup xs),I1.laid (t':=s1.toks) (fun b u e=>Heap.get?_push_of_some _ e) (Nat.le_refl _) ?_,rfl,q _ hf⟩
 exact⟨z,us,r,⟨_,Heap.get?_push_size _ rfl,rfl,_,rfl⟩⟩
theorem f0v (h:PA X es t):PE X (.List es pos) (tLst t):=by
 intro pins s σ H Q I hq
 refine wpAny_List_spliced (thn (h pos pins s σ H _ I hq) fun us s1 ⟨xs,H1,I1,r,z,q⟩=>⟨by rw[<- r.length];exact z,?_⟩)
 have hf:H1 s1.heap.objs.size=none:=I1.hok.fresh (Nat.le_refl _)
 refine⟨.ref s1.heap.objs.size,upd H1 s1.heap.objs.size (.lst xs),I1.laid (t':=s1.toks) (fun b u e=>Heap.get?_push_of_some _ e) (Nat.le_refl _) ?_,rfl,q _ hf⟩
 exact⟨z,us,0,r,Heap.get?_push_size _ rfl⟩
end
abbrev Sp:=List V->Hp->VK->XK->Prop
abbrev CXT:=List Env->Hp->Shared->XK->Value->Shared->Prop
structure Env0 (P:Program)(w:World)(K:PySem.W.Frag)(mg:Str->Option Value)(base:Heap)(A:Around)(outer:List Env)(s:Shared)(H:Hp):Prop where
 frames:A.frames=some outer
 mod:Mod K mg base
 bs:∀b o,base.get? b=some o->s.heap.get? b=some o/\H b=none
 bsz:base.objs.size<=s.heap.objs.size
 funs:s.heap.FunFrames base outer
 frf:∀b∈frs outer,H b=none
 hok:HOk P w H s.heap
 bare:AllBare s.gens
def CE (outer:List Env)(P:Program)(w:World)(H:Hp)(s:Shared)(Q:VK)(u:Value)(s':Shared):Prop :=
 ∃v H',s'.os=s.os/\AllBare s'.gens/\Un (frs outer) [] H H' s.heap s'.heap/\HOk P w H' s'.heap/\RelV v u/\Q v H'
def CR (CX:CXT)(outer:List Env)(P:Program)(w:World)(H:Hp)(s:Shared)(Q:VK)(E:XK)(r:Result)(s':Shared):Prop :=
 match r with
 | .ok (.ret u)=>CE outer P w H s Q u s'
 | .ok _=>False
 | .error e=>CX outer H s E e s'
structure FnOk (P:Program)(w:World)(K:PySem.W.Frag)(mg:Str->Option Value)(base:Heap)(CX:CXT)(k:Nat)(f:Addr)(fd:FuncData)(ps:List Str)(sp:Sp):Prop where
 len:∀vs H Q E,sp vs H Q E->vs.length=ps.length
 run:∀(A:Around) (outer:List Env) (s:Shared) (H:Hp) (args:Args) (us:List Value) (vs:List V) (Q:VK) (E:XK),Room k A->Env0 P w K mg base A outer s H->BindsTo s fd args (ps.zip us)->Vals vs us->sp vs H Q E ->
  codeAny (model P w) A (.call (.ref f) args) (CR CX outer P w H s Q E) s
theorem FnOk.imp {P:Program}{w:World}{K:PySem.W.Frag}{mg:Str->Option Value}{base:Heap}{CX:CXT}{k:Nat}{f:Addr}{fd:FuncData}{ps:List Str}{sp sp':Sp}(F:FnOk P w K mg base CX k f fd ps sp)
  (h:∀vs H Q E,sp' vs H Q E->sp vs H Q E):FnOk P w K mg base CX k f fd ps sp' :=
 ⟨fun vs H Q E q=>F.len vs H Q E (h _ _ _ _ q),fun A outer s H args us vs Q E hr he hb hv hs=>F.run A outer s H args us vs Q E hr he hb hv (h _ _ _ _ hs)⟩
section
variable {X:Cx}{pins:List (Addr×Obj)}{σ:St}{H:Hp}{s s':Shared}
theorem Inv.env0 (I:Inv X pins σ H s):Env0 X.prog X.w X.K X.mg X.base X.A X.stack s H :=
 ⟨I.ok.frames,I.ok.mod,I.bs,Nat.le_trans I.ok.bsz I.sz,I.stack,I.stkFree,I.hok,I.bare⟩
theorem Inv.after {Q:VK}{u:Value}(I:Inv X pins σ H s)(h:CE X.stack X.prog X.w H s Q u s'):EP X pins σ Q u s':=by
 obtain⟨v,H',os,bare,un,hok,r,q⟩:=h
 obtain⟨hh,g,d,t,os'⟩:=s'
 obtain rfl:os'=s.os:=os
 exact⟨v,H',I.call (h':=hh) (g':=g) (d':=d) (t':=t) (ch:=[]) un hok bare (fun b z=>absurd z (by simp)),r,q⟩
end
def v0p (sp:Sp)(dvs:List V)(E:XK)(t:TA):TE:=fun σ H Q=>t σ H fun vs H1=>sp (vs++dvs) H1 Q E
def u0w (K:PySem.W.Frag)(fd:FuncData)(ps:List Str)(ds:List Value):Prop :=
 ∀(s:Shared) (us:List Value),K.In s.heap->(us++ds).length=ps.length->BindsTo s fd ⟨us,[]⟩ (ps.zip (us++ds))
theorem u0w.all {K:PySem.W.Frag}{fd:FuncData}{ps:List Str}(h:∀us:List Value,us.length=ps.length->bindArgs fd ⟨us,[]⟩=pure (ps.zip us)):u0w K fd ps []:=fun s us _ hl=>by
 rw[List.append_nil]at hl ⊢
 exact .of_eq (h us hl)
def q0a (CX:CXT)(X:Cx)(E:XK):Prop:=∀(pins:List (Addr×Obj)) (σ:St) (H:Hp) (s:Shared) (e:Value) (s':Shared),Inv X pins σ H s->CX X.stack H s E e s'->X.xe e s'
section
variable {X:Cx}{CX:CXT}{k:Nat}{f C:Addr}{fd:FuncData}{ps:List Str}{sp:Sp}{dvs:List V}{ds:List Value}{E:XK}{x m:Str}{p pos apos:Pos}{e o:Expr}{es:List Expr}{ta:TE}{t:TA}
theorem g1n {pins:List (Addr×Obj)}{σ:St}{H:Hp}{s:Shared}{Q:VK}{us:List Value}{vs:List V}(F:FnOk X.prog X.w X.K X.mg X.base CX k f fd ps sp)(hr:Room k X.A)(hb:u0w X.K fd ps ds)(hd:Vals dvs ds)(hx:q0a CX X E)
  (I:Inv X pins σ H s) (r:Vals vs us) (h:sp (vs++dvs) H Q E):wpAny (model X.prog X.w) X.A (call (.ref f) us) (EP X pins σ Q) X.xe s:=by
 have r2:Vals (vs++dvs) (us++ds):=r.append hd
 have hl:(us++ds).length=ps.length:=by rw[<- r2.length];exact F.len _ _ _ _ h
 refine wpAny_call (codeAny_mono (F.run X.A X.stack s H ⟨us,[]⟩ (us++ds) (vs++dvs) Q E hr I.env0 (hb s us I.kIn hl) r2 h) fun r s' hq=>?_)
 cases r with
 | error e=>exact hx pins σ H s e s' I hq
 | ok fl =>
  cases fl with
  | ret u=>exact I.after hq
  | next=>exact False.elim hq
  | brk=>exact False.elim hq
  | cont=>exact False.elim hq
theorem w0k (F:FnOk X.prog X.w X.K X.mg X.base CX k f fd ps sp)(hr:Room k X.A)(hg:Gl X x)(hm:X.mg x=some (.ref f))(hk:PySem.W.keepIn X.K (.ref f)=true)(hb:u0w X.K fd ps ds)(hd:Vals dvs ds)(hx:q0a CX X E)
  (ha:PA X (e::es) t) (hdb:(x==("__debug__" : Str))=false:=by decide) (he:starEach (e::es) X.env=(false,eval e X.env)::starEach es X.env:=by rfl) (hpl:(backTo pos (starEach es X.env)).any (·.1)=false:=by rfl) :
  PE X (.Call (.Name x p) (e::es) [] pos) (v0p sp dvs E t):=by
 intro pins s σ H Q I h
 refine wpAny_Call_Name_kw (k0f I hg hm ?_ hdb)
 refine PySem.W.callWith_K (h₀:=X.base) I.ok.mod.kin hk (thn (ha pos pins s σ H _ I h) fun us s1 ⟨vs,H1,I1,r,q⟩=>⟨I1.kIn,?_⟩) he hpl
 exact g1n F hr hb hd hx I1 r q
end
structure b0l (N P:List Str)(sc:Scope):Prop where
 kind:sc.kind = .function
 co:sc.isCoroutine=false
 gen:sc.isGenerator=false
 nd:N.Nodup
 pre:N.take P.length=P
 par:∀x∈P,sc.names.lookup x=some .local∨sc.names.lookup x=some .cell
 nofree:∀y∈sc.names,y.2 ≠ .free
theorem p0w {kindOf:Str->Option NameKind}{x:Str}:∀ {binds:List (Str×Value)} {m:Str->Option Value},(∀v,(x,v)∉binds)->bindL kindOf binds m x=m x
 | [],_,_=>rfl
 | (n,v)::r,m,h=>by
  unfold bindL
  rw[p0w fun w hw=>h w (List.mem_cons_of_mem _ hw)]
  split
  ·have:x≠n:=by rintro rfl;exact h v List.mem_cons_self
   simp[this]
  ·rfl
theorem p0y {kindOf:Str->Option NameKind}{x:Str}:∀ {binds:List (Str×Value)} {m:Str->Option Value},(∀v,(x,v)∉binds)->bindC kindOf binds m x=m x
 | [],_,_=>rfl
 | (n,v)::r,m,h=>by
  unfold bindC
  rw[p0y fun w hw=>h w (List.mem_cons_of_mem _ hw)]
  split
  ·rfl
  ·have:x≠n:=by rintro rfl;exact h v List.mem_cons_self
   simp[this]
theorem p0x {kindOf:Str->Option NameKind}{x:Str}{v:Value}:∀ {P:List Str} {vs:List Value} {i:Nat} {m:Str->Option Value},P.Nodup->P[i]? = some x->vs[i]? = some v->kindOf x=some .local ->
  bindL kindOf (P.zip vs) m x=some v
 | [],_,_,_,_,h,_,_=>by simp at h
 | _::_,[],_,_,_,_,h,_=>by simp at h
 | p::P,w::vs,0,m,nd,h1,h2,hk=>by
  simp at h1 h2;subst h1;subst h2
  show bindL kindOf ((p,w)::P.zip vs) m p=_
  unfold bindL
  rw[p0w fun v hv=>(List.nodup_cons.mp nd).1 (List.of_mem_zip hv).1,if_pos hk]
  simp
 | p::P,w::vs,i+1,m,nd,h1,h2,hk=>by
  show bindL kindOf ((p,w)::P.zip vs) m x=_
  unfold bindL
  exact p0x (i:=i) (List.nodup_cons.mp nd).2 (by simpa using h1) (by simpa using h2) hk
theorem p0z {kindOf:Str->Option NameKind}{x:Str}{v:Value}:∀ {P:List Str} {vs:List Value} {i:Nat} {m:Str->Option Value},P.Nodup->P[i]? = some x->vs[i]? = some v->kindOf x≠some .local ->
  bindC kindOf (P.zip vs) m x=some v
 | [],_,_,_,_,h,_,_=>by simp at h
 | _::_,[],_,_,_,_,h,_=>by simp at h
 | p::P,w::vs,0,m,nd,h1,h2,hk=>by
  simp at h1 h2;subst h1;subst h2
  show bindC kindOf ((p,w)::P.zip vs) m p=_
  unfold bindC
  rw[p0y fun v hv=>(List.nodup_cons.mp nd).1 (List.of_mem_zip hv).1,if_neg hk]
  simp
 | p::P,w::vs,i+1,m,nd,h1,h2,hk=>by
  show bindC kindOf ((p,w)::P.zip vs) m x=_
  unfold bindC
  exact p0z (i:=i) (List.nodup_cons.mp nd).2 (by simpa using h1) (by simpa using h2) hk
def start (N:List Str)(vs:List V):St:=vs.map some++List.replicate (N.length - vs.length) none
def cxOf (CX:CXT)(P:Program)(w:World)(K:PySem.W.Frag)(mg:Str->Option Value)(base:Heap)(N:List Str)(qual:Str)(scope:Scope)(f:Addr)(cd:Value)(A:Around)(outer:List Env)(s:Shared)(H:Hp)(E:XK):Cx where
 prog:=P
 w:=w
 K:=K
 mg:=mg
 base:=base
 A:=A.deeper (envOfC qual scope s.heap.objs.size f cd)
 N:=N
 s₀:=s
 H₀:=H
 env:=envOfC qual scope s.heap.objs.size f cd
 outer:=outer
 stack:=envOfC qual scope s.heap.objs.size f cd::outer
 ex:=[]
 calm:=true
 fn:=fun _=>true
 pn:=[]
 xe:=fun e s'=>wpAny (model P w) (A.deeper (envOfC qual scope s.heap.objs.size f cd)) (leaving (envOfC qual scope s.heap.objs.size f cd) e) (fun _ s''=>CX outer H s E e s'') (fun e' s''=>CX outer H s E e' s'') s'
theorem t0g {sc:Scope}{n:Nat}{x:Str}(h:sc.names.lookup x=some .cell):∃c,(cellsFrom n sc.names []).lookup x=some c:=by
 have q:=PySem.W.cellsFrom_some sc.names n [] (.inl h)
 exact Option.isSome_iff_exists.mp q
theorem x0d {CX:CXT}{P:Program}{w:World}{K:PySem.W.Frag}{mg:Str->Option Value}{base:Heap}{N ps:List Str}{qual:Str}{scope:Scope}{f:Addr}{cd:Value}{A:Around}{outer:List Env}{s s1:Shared}{H:Hp}{E:XK}{us:List Value}{vs:List V}
  (S:b0l N ps scope) (hd:A.handled=none) (e0:Env0 P w K mg base A outer s H) (hl:vs.length=ps.length) (r:Vals vs us)
  (x:InCallC s s.heap.objs.size (bindL (envOfC qual scope s.heap.objs.size f cd).kindOf (ps.zip us) fun _=>none) (cellsFrom (s.heap.objs.size+1) scope.names []) (bindC (envOfC qual scope s.heap.objs.size f cd).kindOf (ps.zip us) fun _=>none) s1) :
  Inv (cxOf CX P w K mg base N qual scope f cd A outer s H E) [] (start N vs) H s1:=by
 have hpl:ps.length<=N.length:=by have:=congrArg List.length S.pre;rw[List.length_take]at this;omega
 obtain⟨h1,tk,rfl,hk⟩:=x.done
 have noA:∀b:Addr,b∉(cxOf CX P w K mg base N qual scope f cd A outer s H E).ex:=fun b z=>absurd (show b∈([]:List Addr)from z) (by simp)
 refine⟨⟨e0.mod,S.kind,rfl,rfl,Nat.le_refl _,fun y z c h1 h2=>?_,fun y hy=>?_,fun y c _ h=>?_,fun _=>hd,Around.frames_deeper e0.frames,.inr ⟨rfl,rfl⟩,fun b z=>absurd z (noA b),e0.bs,e0.bsz,fun b _ _=>noA b,fun b z=>absurd z (noA b),e0.funs,e0.frf⟩,
  rfl,e0.bare,Un.kept hk,⟨_,x.toInCall.ns,fun i y v h1 h2 h3=>?_⟩,fun y c h=>⟨_,x.cell y c h⟩,e0.hok.fresh (Nat.le_refl _),fun y c h=>?_,fun p hp=>absurd (show p∈([]:List (Addr×Obj))from hp) (by simp),e0.hok.kept hk,?_⟩
 ·exact name_of_addr x.apart (PySem.mem_of_lookup h1) (PySem.mem_of_lookup h2)
 ·have hy:scope.names.lookup y=some .cell∨scope.names.lookup y=some .free:=hy
  rcases hy with hy | hy
  ·exact t0g hy
  ·exact absurd rfl (S.nofree _ (PySem.mem_of_lookup hy))
 ·exact Nat.le_of_lt (x.above y c (PySem.mem_of_lookup h))
 ·have hi:i<vs.length:=by
   unfold start at h2
   by_cases hi:i<vs.length
   ·exact hi
   ·rw[List.getElem?_append_right (by simpa using hi)]at h2
    rw[List.getElem?_replicate]at h2
    split at h2 <;> cases h2
  have ha:vs[i]? = some v:=by
   unfold start at h2
   rw[List.getElem?_append_left (by simpa using hi),List.getElem?_map]at h2
   cases e:vs[i]? with
   | none=>rw[e]at h2;cases h2
   | some a=>rw[e]at h2;cases h2;rfl
  obtain⟨u,hu,rv⟩:=r.get ha
  have hp:ps[i]? = some y:=by
   rw[<- S.pre,List.getElem?_take_of_lt (by omega)];exact h1
  have ndP:ps.Nodup:=by rw[<- S.pre];exact S.nd.sublist (List.take_sublist _ _)
  refine⟨u,rv,?_⟩
  rcases S.par y (List.mem_of_getElem? hp)with k | k
  ·exact .inl ⟨k,p0x ndP hp hu k⟩
  ·obtain⟨c,e⟩:=t0g (n:=s.heap.objs.size+1) k
   refine .inr ⟨.inl k,c,e,?_⟩
   have q:=x.cell y c e
   rw[p0z ndP hp hu (by show scope.names.lookup y≠_;rw[k];decide)]at q
   exact q
 ·exact e0.hok.fresh (Nat.le_of_lt (x.above y c (PySem.mem_of_lookup h)))
 ·unfold start
  show _=N.length
  rw[List.length_append,List.length_map,List.length_replicate]
  omega
theorem i1e {CX:CXT}{P:Program}{w:World}{K:PySem.W.Frag}{mg:Str->Option Value}{base:Heap}{k:Nat}{f:Addr}{name qual:Str}{params:Arguments}{body:List Stmt}{scope:Scope}{dV kV doc pm cdv ct oc:Value}{an od:Option Addr}
  {osl:Array (Option Value)} {N ps:List Str} {sp:Sp} (lk:K.lookup f=some ⟨oc,od,.func (PySem.W.fnOf name qual params body scope dV kV doc pm an cdv ct),osl⟩) (hcd:PySem.W.codeIn K cdv qual=true) (S:b0l N ps scope)
  (len:∀vs H Q E,sp vs H Q E->vs.length=ps.length)
  (hbody:∀(A:Around) (outer:List Env) (s:Shared) (H:Hp) (vs:List V) (Q:VK) (E:XK),Room k (A.deeper (envOfC qual scope s.heap.objs.size f cdv))->sp vs H Q E ->
   ∃t,PSs (cxOf CX P w K mg base N qual scope f cdv A outer s H E) body t/\t {nx:=fun _ H'=>Q .non H',rt:=Q} (start N vs) H) :
  FnOk P w K mg base CX (k+1) f (PySem.W.fnOf name qual params body scope dV kV doc pm an cdv ct) ps sp:=by
 refine⟨len,fun A outer s H args us vs Q E hr e0 hb r hsp=>?_⟩
 have hl:=len _ _ _ _ hsp
 have KX:K.In s.heap:=e0.mod.kin.keeps fun b o e=>(e0.bs b o e).1
 have lim:s.heap.NoLimit:=e0.mod.nolimit.keeps fun b o e=>(e0.bs b o e).1
 have hkind:∀y∈ps.zip us,scope.names.lookup y.1=some .local∨(scope.names.lookup y.1=some .cell/\((cellsFrom (s.heap.objs.size+1) scope.names []).lookup y.1).isSome=true):=fun⟨n,v⟩ hy=>by
  rcases S.par n (List.of_mem_zip hy).1 with q | q
  ·exact .inl q
  ·exact .inr ⟨q,PySem.W.cellsFrom_some _ _ _ (.inl q)⟩
 refine codeAny_call_function hr.depth (KX _ _ lk) rfl S.co S.gen rfl (PySem.W.codeRec_of KX hcd) (hb _ _ _ _ ?_)
 refine wpAny_newFunctionEnv_cells S.kind hkind fun env he s1 x=>?_
 subst he
 refine⟨lim.keeps x.toInCall.keep,codeAny_func ?_⟩
 obtain⟨t,ht,hq⟩:=hbody A outer s H vs Q E (hr.deeper _) hsp
 have I:Inv (cxOf CX P w K mg base N qual scope f cdv A outer s H E) [] (start N vs) H s1:=x0d S hr.hd e0 hl r x
 refine wpAny_mono (ht [] s1 (start N vs) H _ I hq) (fun fl s' hs=>?_) fun e s' hs=>hs
 have fin:∀ {σ':St} {H':Hp} {v:V} {u:Value},Inv (cxOf CX P w K mg base N qual scope f cdv A outer s H E) [] σ' H' s'->RelV v u->Q v H'->CE outer P w H s Q u s' :=
  fun{σ' H' v u} J rv q=>⟨v,H',J.os,J.bare,J.base,J.hok,rv,q⟩
 cases fl with
 | ret u =>
  obtain⟨v,σ',H',J,rv,q⟩:=hs
  exact fin J rv q
 | next =>
  obtain⟨σ',H',J,q⟩:=hs
  exact fin (v:=V.non) (u:=Value.none) J rfl q
 | brk =>
  obtain⟨_,_,_,q⟩:=hs
  exact False.elim q
 | cont =>
  obtain⟨_,_,_,q⟩:=hs
  exact False.elim q
section
variable {X:Cx}{x:Str}{p pos:Pos}{e:Expr}{es:List Expr}{t:TA}{id T:String}{r:List V->Hp->VK->Prop}
def tCB (r:List V->Hp->VK->Prop)(t:TA):TE:=fun σ H Q=>t σ H fun vs H1=>r vs H1 Q
theorem a0m (hc:i0a X (.builtin id) r)(hg:Gl X x)(hm:X.mg x=none)(hv:bootBuiltins x=some (.builtin id))(ha:PA X (e::es) t)(hn:x ≠ "__name__" := by decide)(hdb:(x==("__debug__" : Str))=false:=by decide)
  (he:starEach (e::es) X.env=(false,eval e X.env)::starEach es X.env:=by rfl) (hpl:(backTo pos (starEach es X.env)).any (·.1)=false:=by rfl):PE X (.Call (.Name x p) (e::es) [] pos) (tCB r t):=by
 intro pins s σ H Q I h
 refine wpAny_Call_Name_kw (l0r I hg hm hv ?_ hn hdb)
 exact PyProof.Rows.callWith_builtin1 (thn (ha pos pins s σ H _ I h) fun us s1 ⟨vs,H1,I1,r1,q1⟩=>hc pins s1 σ H1 vs us Q I1 r1 q1) he hpl
theorem e0r (hc:i0a X (.type T) r)(hg:Gl X x)(hm:X.mg x=none)(hv:bootBuiltins x=some (.type T))(ha:PA X (e::es) t)(hn:x ≠ "__name__" := by decide)(hdb:(x==("__debug__" : Str))=false:=by decide)
  (he:starEach (e::es) X.env=(false,eval e X.env)::starEach es X.env:=by rfl) (hpl:(backTo pos (starEach es X.env)).any (·.1)=false:=by rfl):PE X (.Call (.Name x p) (e::es) [] pos) (tCB r t):=by
 intro pins s σ H Q I h
 refine wpAny_Call_Name_kw (l0r I hg hm hv ?_ hn hdb)
 exact PyProof.Rows.callWith_type1 (thn (ha pos pins s σ H _ I h) fun us s1 ⟨vs,H1,I1,r1,q1⟩=>hc pins s1 σ H1 vs us Q I1 r1 q1) he hpl
end
end L2
namespace HT
open PySem PyProof.Rows
def lexLt:List Int->List Int->Bool
 | [],[]=>false
 | [],_::_=>true
 | _::_,[]=>false
 | x::xs,y::ys=>if x=y then lexLt xs ys else decide (x<y)
theorem lexLt_cons (x y:Int)(xs ys:List Int):lexLt (x::xs) (y::ys)=if x=y then lexLt xs ys else decide (x<y):=rfl
theorem lexLt_nil_nil:lexLt [] []=false:=rfl
theorem lexLt_nil_cons (y:Int)(ys:List Int):lexLt [] (y::ys)=true:=rfl
theorem lexLt_cons_nil (x:Int)(xs:List Int):lexLt (x::xs) []=false:=rfl
theorem a1i (A:Around)(s:Shared)(a:Int)(t:Tok)(c:Int)(u:Tok):∃e,SeqAt.EqAt A s (.int a t) (.int c u) e/\(e=true↔a=c) :=
 ⟨(a==c),SeqAt.EqAt.int_int a t c u,by simp⟩
theorem rcLt_int (A:Around)(s:Shared)(a:Int)(t:Tok)(c:Int)(u:Tok)(prog:Program)(w:World)(E:Value->Shared->Prop)(Q:Value->Shared->Prop)(h:Q (.bool (decide (a<c))) s) :
  wpAny (model prog w) A (richCompare .Lt (.int a t) (.int c u)) Q E s :=
 (PyProof.Rows.lt_int h:wpAny (model prog w) A (compareOp .Lt (.int a t) (.int c u)) Q E s)
section
open PySem.SeqAt
open PySem.AutoSeq1 (wpAny_loadPart')
open PySem.MeetsSeq PySem.MeetsSeq2 PySem.MeetsSeq3
theorem m0e (l b:Addr)(items items2:Array Value)(n n2:Nat)(dd dd2:Option Addr)(sl sl2:Array (Option Value))(ns ms:List Int)(hi:IntsAre items.toList ns)(hj:IntsAre items2.toList ms) :
  Meets (Builtin.«tuple.__lt__» ⟨[.ref l,.ref b],[]⟩)
   (fun _ R s=>s.heap.get? l=some {cls:=.type "tuple",dict:=dd,data:=.seq items n,slots:=sl}/\s.heap.get? b=some {cls:=.type "tuple",dict:=dd2,data:=.seq items2 n2,slots:=sl2} /\
    R (.ok (.ret (.bool (lexLt ns ms)))) s) :=
 .of_wp fun prog w A R s h=>by
  obtain⟨hp,g,d,tk,os⟩:=s;obtain⟨hl,hb,h⟩:=h
  have f2:=AutoSeq1.sub_tuple_tuple
  have z1:items.size=ns.length:=by rw[<- hi.length];simp
  have z2:items2.size=ms.length:=by rw[<- hj.length];simp
  wp_walk using wpAny_loadPart' hl,wpAny_loadPart' hb,wpAny_forIn_list _ (fun rest b s'=>b.1=none/\s'=⟨hp,g,d,tk,os⟩/\∃(vs ws:List Value) (ns' ms':List Int),rest=vs.zip ws /\
   IntsAre vs ns'/\IntsAre ws ms'/\ns'.length+items2.size=ms'.length+items.size/\R (.ok (.ret (.bool (lexLt ns' ms')))) ⟨hp,g,d,tk,os⟩) _
  case turn =>
   rintro⟨y,x⟩ rest b s' ⟨hb',rfl,vs,ws,ns',ms',hz,hvi,hwi,hlen,hR⟩
   cases hvi with
   | nil=>rw[List.zip_nil_left]at hz;cases hz
   | cons a t hvi' =>
    cases hwi with
    | nil=>rw[List.zip_nil_right]at hz;cases hz
    | cons c u hwi' =>
     rw[List.zip_cons_cons]at hz
     injection hz with hyx hrest
     injection hyx with hy hx
     subst hy hx
     rw[lexLt_cons]at hR
     simp only[List.length_cons]at hlen
     obtain⟨e,he,hiff⟩:=a1i A.in1 ⟨hp,g,d,tk,os⟩ a t c u
     refine wpAny_bind (he prog w _ _ ?_)
     cases e with
     | true =>
      rw[if_pos (hiff.mp rfl)]at hR
      wp_walk
      exact⟨rfl,rfl,_,_,_,_,hrest,hvi',hwi',by omega,hR⟩
     | false =>
      rw[if_neg (fun q=>absurd (hiff.mpr q) Bool.false_ne_true)]at hR
      have hri:=rcLt_int A.in1 ⟨hp,g,d,tk,os⟩ a t c u prog w
      wp_walk using hri
      exact⟨_,rfl,by simpa using hR⟩
  case fin =>
   rintro⟨b1,b2⟩ s' ⟨hb',rfl,vs,ws,ns',ms',hz,hvi,hwi,hlen,hR⟩
   simp only at hb'
   subst hb'
   have hv:lexLt ns' ms'=decide (items.size<items2.size):=by
    cases hvi with
    | nil =>
     cases hwi with
     | nil =>
      simp only[List.length_nil]at hlen
      rw[lexLt_nil_nil]
      exact(decide_eq_false (by omega)).symm
     | cons c u hw =>
      simp only[List.length_nil,List.length_cons]at hlen
      rw[lexLt_nil_cons]
      exact(decide_eq_true (by omega)).symm
    | cons a t hv =>
     cases hwi with
     | nil =>
      simp only[List.length_nil,List.length_cons]at hlen
      rw[lexLt_cons_nil]
      exact(decide_eq_false (by omega)).symm
     | cons c u hw =>
      rw[List.zip_cons_cons]at hz
      cases hz
   rw[hv]at hR
   wp_walk
   exact⟨_,rfl,by simpa [Builtin.Tuple.tupleCompareSizes] using hR⟩
  case h =>
   exact⟨rfl,rfl,items.toList,items2.toList,ns,ms,rfl,hi,hj,by omega,h⟩
end
section
variable {prog:Program}{w:World}{A:Around}{E:Value->Shared->Prop}{s:Shared}
theorem lt_tupInts {l b:Addr}{items items2:Array Value}{ns ms:List Int}{Q:Value->Shared->Prop}(hl:IsTup s.heap l items)(hb:IsTup s.heap b items2)(hi:IntsAre items.toList ns)(hj:IntsAre items2.toList ms)
  (hu:A.units<cLine) (h:Q (.bool (lexLt ns ms)) s):wpAny (model prog w) A (compareOp .Lt (.ref l) (.ref b)) Q E s:=by
 obtain⟨⟨cls,dd,data,sl⟩,ho,hc,n,hd⟩:=id hl
 obtain⟨⟨cls2,dd2,data2,sl2⟩,ho2,hc2,n2,hd2⟩:=id hb
 simp only at hc hd hc2 hd2
 subst hc hd hc2 hd2
 exact richCompare_meets_room (op:=.Lt) ⟨_,ho,rfl⟩ ⟨_,ho2,rfl⟩ PySem.F.slot_tuple_lt PySem.F.entry_tuple_lt (PySem.F.args_tuple_lt_2 _ _) (m0e l b items items2 n n2 dd dd2 sl sl2 ns ms hi hj)
  ⟨ho,ho2,show Value.bool (lexLt ns ms)≠Value.notImplemented/\Q (.bool (lexLt ns ms)) s from⟨(fun x=>nomatch x),h⟩⟩ hu
def sIx (n d:Nat):Option Int->Nat
 | none=>d
 | some v=>if v<0 then(v+(n:Int)).toNat else min v.toNat n
theorem sIx_nat (n d k:Nat):sIx n d (some (k:Int))=min k n:=by
 show(if(k:Int)<0 then((k:Int)+(n:Int)).toNat else min (k:Int).toNat n)=min k n
 rw[if_neg (by omega),Int.toNat_natCast]
end
end HT
namespace L2
open PySem PySem.Spec PyProof.Rows
abbrev TO:=St->Hp->(Option Int->Hp->Prop)->Prop
def PO (X:Cx)(e:Option Expr)(t:TO):Prop :=
 ∀(pins:List (Addr×Obj)) (s:Shared) (σ:St) (H:Hp) (Q:Option Int->Hp->Prop),Inv X pins σ H s->t σ H Q ->
  wpAny (model X.prog X.w) X.A (evalPart e X.env) (fun u s'=>∃o H',Inv X pins σ H' s'/\IsPart u o/\Q o H') X.xe s
def tNoPart:TO:=fun _ H Q=>Q none H
def g1f (t:TE):TO:=fun σ H Q=>t σ H fun x H1=>∃i,x = .int i/\Q (some i) H1
theorem u0k {ns:List Int}:∀ {us:List Value},Vals (ns.map V.int) us->IntsAre us ns:=by
 induction ns with
 | nil=>intro us r;rw[List.map_nil]at r;cases r;exact .nil
 | cons n ns ih =>
  intro us r
  rw[List.map_cons]at r
  cases r with
  | cons r1 r2 =>
   obtain⟨t,e⟩:=r1
   subst e
   exact .cons n t (ih r2)
section
variable {X:Cx}{e:Expr}{te:TE}{lo hi:Option Expr}{tl th:TO}{pos p2:Pos}
theorem q0m:PO X none tNoPart:=by
 intro pins s σ H Q I h
 rw[evalPart_none]
 exact wpAny_pure ⟨none,H,I,.none,h⟩
theorem q0l (h:PE X e te):PO X (some e) (g1f te):=by
 intro pins s σ H Q I hw
 rw[evalPart_some]
 refine thn (h pins s σ H _ I hw) fun u s1 ⟨x,H1,I1,r1,q1⟩=>?_
 obtain⟨i,rfl,q⟩:=q1
 obtain⟨t,rfl⟩:=r1
 exact⟨some i,H1,I1,.int i t,q⟩
def SlR (X:Cx)(r:V->Option Int->Option Int->Hp->VK->Prop):Prop :=
 ∀(pins:List (Addr×Obj)) (s:Shared) (σ:St) (H:Hp) (x:V) (v vl vu:Value) (lo hi:Option Int) (sl:Addr) (Q:VK),Inv X pins σ H s->RelV x v->s.heap.IsSliceOf sl vl vu .none->IsPart vl lo->IsPart vu hi->r x lo hi H Q ->
  ∃T id,typeLookup (.type T) "__getitem__" = pure (some (.builtin id))/\s.TypeIs v T/\wpAny (model X.prog X.w) X.A (getItem v (.ref sl)) (EP X pins σ Q) X.xe s
def tSl (r:V->Option Int->Option Int->Hp->VK->Prop)(te:TE)(tl th:TO):TE:=fun σ H Q=>te σ H fun x H1=>tl σ H1 fun l H2=>th σ H2 fun u H3=>r x l u H3 Q
theorem m0q {r:V->Option Int->Option Int->Hp->VK->Prop}(hr:SlR X r)(he:PE X e te)(hl:PO X lo tl)(hu:PO X hi th):PE X (.Subscript e (.Slice lo hi none p2) pos) (tSl r te tl th):=by
 intro pins s σ H Q I h
 refine Subscript_ (thn (he pins s σ H _ I h) fun v s1 ⟨x,H1,I1,r1,q1⟩=>?_)
 refine wpAny_Slice (thn (hl pins s1 σ H1 _ I1 q1) fun vl s2 ⟨l,H2,I2,pl,q2⟩=>thn (hu pins s2 σ H2 _ I2 q2) fun vu s3 ⟨u,H3,I3,pu,q3⟩=>?_)
 rw[evalPart_none]
 refine wpAny_pure ?_
 have I4:Inv X pins σ H3 {s3 with heap:=s3.heap.push {cls:=.type "slice",data:=.fields #[vl,vu,.none]}}:=I3.kept (t':=s3.toks) fun b ob q=>Heap.get?_push_of_some _ q
 obtain⟨T,id,hT,ht,hg⟩:=hr pins {s3 with heap:=s3.heap.push {cls:=.type "slice",data:=.fields #[vl,vu,.none]}} σ H3 x v vl vu l u s3.heap.objs.size Q I4 r1 (Heap.IsSliceOf.new ..) pl pu q3
 show wpAny (model X.prog X.w) X.A (subscriptTail e (.Slice lo hi none p2) v (.ref s3.heap.objs.size)) (EP X pins σ Q) X.xe {s3 with heap:=s3.heap.push {cls:=.type "slice",data:=.fields #[vl,vu,.none]}}
 exact tail_any (ops:=[.ref s3.heap.objs.size,v]) ht hT hg (by with_unfolding_all rfl)
def cutV (xs:List V)(lo hi:Option Int):List V:=(xs.drop (HT.sIx xs.length 0 lo)).take (HT.sIx xs.length xs.length hi - HT.sIx xs.length 0 lo)
theorem r0p (xs:List V)(lo hi:Option Int):(cutV xs lo hi).length<=xs.length:=by
 unfold cutV
 rw[List.length_take,List.length_drop]
 omega
end
def ixN (n:Nat)(i:Int):Option Nat:=if 0<=i then(if i<n then some i.toNat else none)else if -(n:Int)<=i then some (i+n).toNat else none
def atI {α:Type}(xs:List α)(i:Int):Option α:=(ixN xs.length i).bind fun j=>xs[j]?
theorem e1g {n:Nat}{i:Int}{j:Nat}(h:ixN n i=some j):seqIndex? i n=some j/\j<n/\-(n:Int)<=i/\i<n:=by
 unfold ixN at h
 by_cases h0:0<=i
 ·rw[if_pos h0]at h
  by_cases h1:i<n
  ·rw[if_pos h1]at h
   have e:i.toNat=j:=Option.some.inj h
   exact⟨by rw[seqIndex_of h0 h1,e],by omega,by omega,h1⟩
  ·rw[if_neg h1]at h;cases h
 ·rw[if_neg h0]at h
  by_cases h1:-(n:Int)<=i
  ·rw[if_pos h1]at h
   have e:(i+n).toNat=j:=Option.some.inj h
   exact⟨by rw[seqIndex_neg (by omega) h1,e],by omega,h1,by omega⟩
  ·rw[if_neg h1]at h;cases h
theorem r0r {α:Type}{xs:List α}{i:Int}{v:α}(h:atI xs i=some v):∃j,seqIndex? i xs.length=some j/\xs[j]? = some v/\j<xs.length/\-(xs.length:Int)<=i/\i<xs.length:=by
 unfold atI at h
 cases e:ixN xs.length i with
 | none=>rw[e]at h;cases h
 | some j =>
  rw[e]at h
  obtain⟨h1,h2,h3,h4⟩:=e1g e
  exact⟨j,h1,h,h2,h3,h4⟩
theorem y0o {α:Type}{xs:List α}{j:Nat}{v:α}(h:xs[j]? = some v):atI xs (j:Int)=some v:=by
 have hj:j<xs.length:=(List.getElem?_eq_some_iff.mp h).1
 have e:ixN xs.length (j:Int)=some j:=by
  unfold ixN
  rw[if_pos (by omega),if_pos (by omega)];simp
 unfold atI;rw[e];exact h
def f1g (b:Expr):Prop:=∀o i,subscripted b false o i=operate [o,i] (getItem o i)
def IxR (X:Cx)(r:R2):Prop :=
 ∀(value slice:Expr) (pins:List (Addr×Obj)) (s:Shared) (σ:St) (H:Hp) (x y:V) (v u:Value) (Q:VK),Inv X pins σ H s->RelV x v->RelV y u->r x y H Q ->
  subscripted slice false v u=operate [v,u] (getItem v u)->wpAny (model X.prog X.w) X.A (subscriptTail value slice v u) (EP X pins σ Q) X.xe s
def MtR (X:Cx)(id:String)(r:V->List V->Hp->VK->Prop):Prop :=
 ∀(pins:List (Addr×Obj)) (s:Shared) (σ:St) (H:Hp) (x:V) (xs:List V) (v:Value) (us:List Value) (Q:VK),Inv X pins σ H s->RelV x v->Vals xs us->r x xs H Q ->
  wpAny (model X.prog X.w) X.A (call (.builtin id) (v::us)) (EP X pins σ Q) X.xe s
section
variable {X:Cx}{a b:Expr}{ta tb:TE}{pos:Pos}
theorem IxR.or {r r':R2}(h:IxR X r)(h':IxR X r'):IxR X (fun x y H Q=>r x y H Q∨r' x y H Q):=by
 intro value slice pins s σ H x y v u Q I rx ry q hs
 rcases q with q | q
 ·exact h value slice pins s σ H x y v u Q I rx ry q hs
 ·exact h' value slice pins s σ H x y v u Q I rx ry q hs
theorem g0g {r:R2}(hr:IxR X r)(ha:PE X a ta)(hb:PE X b tb)(hs:f1g b):PE X (.Subscript a b pos) (tOp r ta tb):=by
 intro pins s σ H Q I h
 exact Subscript_ (binT ha hb I h fun v u s2 x y H2 I2 rx ry q=>hr a b pins s2 σ H2 x y v u Q I2 rx ry q (hs _ _))
def rIxL (K:PySem.W.Frag):R2:=fun x y H Q=>∃p xs i v,x = .ref p/\y = .int i/\SqL K H p xs/\atI xs i=some v/\Q v H
def rIxT (K:PySem.W.Frag):R2:=fun x y H Q=>∃p xs i v,x = .ref p/\y = .int i/\SqT K H p xs/\atI xs i=some v/\Q v H
def rIxS:R2:=fun x y H Q=>∃z i c,x = .str z/\y = .int i/\z.length<=sizeLine/\atI z.cps.toList i=some c/\Q (.str ⟨#[c]⟩) H
theorem e1f:IxR X (rIxL X.K):=by
 intro value slice pins s σ H x y v u Q I rx ry h hs
 obtain⟨p,xs,i,z,rfl,rfl,hq,he,q⟩:=h
 cases rx
 obtain⟨t,rfl⟩:=ry
 obtain⟨its,r,pl,hz⟩:=I.list hq
 obtain⟨j,h1,h2,h3,h4,h5⟩:=r0r he
 obtain⟨w,ew,rw'⟩:=r.get h2
 have hl:=r.length
 have hn:=o0x
 have fin:EP X pins σ Q w s:=⟨z,H,I,rw',q⟩
 by_cases h0:0<=i
 ·have hj:i.toNat=j:=by
   rw[seqIndex_of h0 h5]at h1
   exact Option.some.inj h1
  exact item_listR pl.isList h0 (by omega) (by rw[hj];simpa using ew) fin hs
 ·have hj:(i+(its.toArray.size:Int)).toNat=j:=by
   rw[seqIndex_neg (by omega) h4]at h1
   rw[List.size_toArray,<- hl]
   exact Option.some.inj h1
  exact subscriptTail_builtinR (x:=w) pl.isList.typeIs slot_list_getitem.lookup
   (wpAny_getItem_list_neg (Q:=fun r s'=>r=w/\EP X pins σ Q r s') pl.isList (by omega) (by rw[List.size_toArray] <;> omega) (by omega) (by rw[hj];simpa using ew) ⟨rfl,fin⟩) hs
theorem h1t:IxR X (rIxT X.K):=by
 intro value slice pins s σ H x y v u Q I rx ry h hs
 obtain⟨p,xs,i,z,rfl,rfl,hq,he,q⟩:=h
 cases rx
 obtain⟨t,rfl⟩:=ry
 obtain⟨its,r,pl,hz⟩:=I.tuple hq
 obtain⟨j,h1,h2,h3,h4,h5⟩:=r0r he
 obtain⟨w,ew,rw'⟩:=r.get h2
 have hl:=r.length
 have hn:=o0x
 have fin:EP X pins σ Q w s:=⟨z,H,I,rw',q⟩
 exact subscriptTail_builtinR (x:=w) pl.typeIs slot_tuple_getitem.lookup
  (getItem_tuple (j:=j) (Q:=fun r s'=>r=w/\EP X pins σ Q r s') pl (by omega) (by omega) (by rw[List.size_toArray,<- hl];exact h1) (by simpa using ew) ⟨rfl,fin⟩) hs
theorem h1u:IxR X rIxS:=by
 intro value slice pins s σ H x y v u Q I rx ry h hs
 obtain⟨z,i,c,rfl,rfl,hz,he,q⟩:=h
 obtain⟨t,rfl⟩:=rx
 obtain⟨t',rfl⟩:=ry
 obtain⟨j,h1,h2,h3,h4,h5⟩:=r0r he
 have hl:z.cps.toList.length=z.length:=by simp[Str.length]
 rw[hl]at h1 h4 h5
 have hn:=o0x
 exact tail_any (typeIs_str s z t) slot_str_getitem.lookup (getItem_str (c:=c) (by
  have e1:decide (i < -(2^63:Int))=false:=decide_eq_false (by omega)
  have e2:decide (i>=2^63)=false:=decide_eq_false (by omega)
  rw[e1,e2,Bool.or_false]) (by rw[h1];simpa using h2) ⟨.str ⟨#[c]⟩,H,I.tok _,⟨_,rfl⟩,q⟩) hs
def rIx (K:PySem.W.Frag):R2:=fun x y H Q=>rIxL K x y H Q∨rIxT K x y H Q∨rIxS x y H Q
theorem h1v:IxR X (rIx X.K):=e1f.or (h1t.or h1u)
theorem o0b (lo hi:Option Int)(n:Nat):(sliceBounds lo hi none n).1=((HT.sIx n 0 lo:Nat):Int)/\(sliceBounds lo hi none n).2.1=((HT.sIx n n hi:Nat):Int)/\(sliceBounds lo hi none n).2.2=1:=by
 refine⟨?_,?_,rfl⟩
 ·cases lo with
  | none=>simp[sliceBounds,HT.sIx]
  | some i =>
   simp only[sliceBounds,HT.sIx,Option.getD_none,show(1:Int) > 0 by decide,if_true]
   by_cases h:i<0
   ·simp only[h,if_true] <;> omega
   ·simp only[h,if_false] <;> omega
 ·cases hi with
  | none=>simp[sliceBounds,HT.sIx]
  | some i =>
   simp only[sliceBounds,HT.sIx,Option.getD_none,show(1:Int) > 0 by decide,if_true]
   by_cases h:i<0
   ·simp only[h,if_true] <;> omega
   ·simp only[h,if_false] <;> omega
theorem m0i (its:List Value)(lo hi:Option Int):slicePick its.toArray lo hi none=((its.drop (HT.sIx its.length 0 lo)).take (HT.sIx its.length its.length hi - HT.sIx its.length 0 lo)).toArray:=by
 obtain⟨h1,h2,h3⟩:=o0b lo hi its.toArray.size
 unfold slicePick
 rw[h1,h2,h3]
 simp only[sliceRange_one,pick_run,List.size_toArray] <;> rfl
def rSlL (K:PySem.W.Frag):V->Option Int->Option Int->Hp->VK->Prop:=fun x lo hi H Q=>∃a xs,x = .ref a/\SqL K H a xs/\∀p,H p=none->Q (.ref p) (upd H p (.lst (cutV xs lo hi)))
theorem d1e:SlR X (rSlL X.K):=by
 intro pins s σ H x v vl vu lo hi sl Q I rx hs pl pu h
 obtain⟨a,xs,rfl,hx,q⟩:=h
 cases rx
 obtain⟨its,r,ht,hz⟩:=I.list hx
 have hlen:=r.length
 refine⟨"list",_,slot_list_getitem.lookup,ht.isList.typeIs,?_⟩
 refine wpAny_getItem_list_slice ht.isList hs pl pu .none (by simp) ?_ (by rw[List.size_toArray] <;> omega)
 rw[m0i,<- hlen]
 refine⟨.ref s.heap.objs.size,_,I.laid (t':=s.toks) (o:=.lst (cutV xs lo hi)) (fun b ob q=>Heap.get?_push_of_some _ q) (Nat.le_refl _) ?_,rfl,q _ (I.hok.fresh (Nat.le_refl _))⟩
 exact⟨Nat.le_trans (r0p xs lo hi) hz,_,0,(r.drop (HT.sIx xs.length 0 lo)).take (HT.sIx xs.length xs.length hi - HT.sIx xs.length 0 lo),Heap.get?_push_size _ rfl⟩
def l0b:V->Bool
 | .non=>true
 | .bl _=>true
 | .int _=>true
 | .str _=>true
 | _=>false
def eqV:V->V->Bool
 | .non,.non=>true
 | .bl a,.bl b=>a==b
 | .bl a,.int b=>(if a then 1 else 0)==b
 | .int a,.bl b=>a==(if b then 1 else 0)
 | .int a,.int b=>a==b
 | .str a,.str b=>a==b
 | _,_=>false
theorem i1h {A:Around}{s:Shared}{y x:V}{u v:Value}(ry:RelV y u)(rx:RelV x v)(fy:l0b y=true)(fx:l0b x=true):SeqAt.EqAt A s u v (eqV y x):=by
 cases y with
 | non =>
  cases ry
  cases x with
  | non=>cases rx;exact SeqAt.EqAt.same _
  | bl b=>cases rx;exact SeqAt.EqAt.none_bool b
  | int b=>obtain⟨t,rfl⟩:=rx;exact SeqAt.EqAt.none_int b t
  | str b=>obtain⟨t,rfl⟩:=rx;exact SeqAt.EqAt.none_str b t
  | _=>exact absurd (show false=true from fx) Bool.false_ne_true
 | bl a =>
  cases ry
  cases x with
  | non=>cases rx;exact SeqAt.EqAt.bool_none a
  | bl b=>cases rx;exact SeqAt.EqAt.bool_bool a b
  | int b=>obtain⟨t,rfl⟩:=rx;exact SeqAt.EqAt.bool_int a b t
  | str b=>obtain⟨t,rfl⟩:=rx;exact SeqAt.EqAt.bool_str a b t
  | _=>exact absurd (show false=true from fx) Bool.false_ne_true
 | int a =>
  obtain⟨t',rfl⟩:=ry
  cases x with
  | non=>cases rx;exact SeqAt.EqAt.int_none a t'
  | bl b=>cases rx;exact SeqAt.EqAt.int_bool a t' b
  | int b=>obtain⟨t,rfl⟩:=rx;exact SeqAt.EqAt.int_int a t' b t
  | str b=>obtain⟨t,rfl⟩:=rx;exact SeqAt.EqAt.int_str a t' b t
  | _=>exact absurd (show false=true from fx) Bool.false_ne_true
 | str a =>
  obtain⟨t',rfl⟩:=ry
  cases x with
  | non=>cases rx;exact SeqAt.EqAt.str_none a t'
  | bl b=>cases rx;exact SeqAt.EqAt.str_bool a t' b
  | int b=>obtain⟨t,rfl⟩:=rx;exact SeqAt.EqAt.str_int a t' b t
  | str b=>obtain⟨t,rfl⟩:=rx;exact SeqAt.EqAt.str_str a t' b t
  | _=>exact absurd (show false=true from fx) Bool.false_ne_true
 | _=>exact absurd (show false=true from fy) Bool.false_ne_true
def eqU (x:V)(u:Value):Bool:=match u with
 | .none=>eqV .non x
 | .bool b=>eqV (.bl b) x
 | .int i _=>eqV (.int i) x
 | .str z _=>eqV (.str z) x
 | _=>false
theorem c1i {x y:V}{u:Value}(r:RelV y u)(f:l0b y=true):eqU x u=eqV y x:=by
 cases y with
 | non=>cases r;rfl
 | bl b=>cases r;rfl
 | int i=>obtain⟨t,rfl⟩:=r;rfl
 | str z=>obtain⟨t,rfl⟩:=r;rfl
 | _=>exact absurd (show false=true from f) Bool.false_ne_true
theorem k0s {x:V}:∀ {xs:List V} {us:List Value},Vals xs us->xs.all l0b=true->us.any (eqU x)=xs.any fun y=>eqV y x
 | _,_,.nil,_=>rfl
 | y::xs,u::us,.cons r t,f=>by
  rw[List.all_cons,Bool.and_eq_true]at f
  rw[List.any_cons,List.any_cons,c1i r f.1,k0s t f.2]
theorem h0r {A:Around}{s:Shared}{x:V}{v:Value}(rx:RelV x v)(fx:l0b x=true):∀ {xs:List V} {us:List Value},Vals xs us->xs.all l0b=true->∀u∈us,SeqAt.EqAt A s u v (eqU x u)
 | _,_,.nil,_=>fun u hu=>by cases hu
 | y::xs,u::us,.cons r t,f=>fun u' hu=>by
  rw[List.all_cons,Bool.and_eq_true]at f
  rcases List.mem_cons.mp hu with rfl | hu
  ·rw[c1i r f.1];exact i1h r rx f.1 fx
  ·exact h0r rx fx t f.2 u' hu
def inV (x:V)(xs:List V):Bool:=xs.any fun y=>eqV y x
def rIn (K:PySem.W.Frag)(neg:Bool):R2:=fun x y H Q=>∃p xs,y = .ref p/\(SqL K H p xs∨SqT K H p xs)/\l0b x=true/\xs.all l0b=true/\Q (.bl (if neg then !inV x xs else inV x xs)) H
theorem w0p:OpR X (compareOp .In) (rIn X.K false):=by
 intro pins s σ H x y v u Q I rx ry h
 obtain⟨p,xs,rfl,hq,fx,fs,q⟩:=h
 cases ry
 rcases hq with hq | hq
 ·obtain⟨its,r,pl,hz⟩:=I.list hq
  refine SeqAt.in_listAt (eqU x) pl.isList (fun w hw=>h0r rx fx r fs w (by simpa using hw)) ⟨.bl _,H,I,rfl,?_⟩
  rw[show its.toArray.any (eqU x)=its.any (eqU x)by simp,k0s r fs]
  exact q
 ·obtain⟨its,r,pl,hz⟩:=I.tuple hq
  refine SeqAt.in_tupleAt (eqU x) pl (fun w hw=>h0r rx fx r fs w (by simpa using hw)) ⟨.bl _,H,I,rfl,?_⟩
  rw[show its.toArray.any (eqU x)=its.any (eqU x)by simp,k0s r fs]
  exact q
theorem o0j:OpR X (compareOp .NotIn) (rIn X.K true):=by
 intro pins s σ H x y v u Q I rx ry h
 obtain⟨p,xs,rfl,hq,fx,fs,q⟩:=h
 cases ry
 rcases hq with hq | hq
 ·obtain⟨its,r,pl,hz⟩:=I.list hq
  refine SeqAt.notIn_listAt (eqU x) pl.isList (fun w hw=>h0r rx fx r fs w (by simpa using hw)) ⟨.bl _,H,I,rfl,?_⟩
  rw[show its.toArray.any (eqU x)=its.any (eqU x)by simp,k0s r fs]
  exact q
 ·obtain⟨its,r,pl,hz⟩:=I.tuple hq
  refine SeqAt.notIn_tupleAt (eqU x) pl (fun w hw=>h0r rx fx r fs w (by simpa using hw)) ⟨.bl _,H,I,rfl,?_⟩
  rw[show its.toArray.any (eqU x)=its.any (eqU x)by simp,k0s r fs]
  exact q
theorem p0q:i0a X (.builtin "len") (fun xs H Q=>∃p ys,xs=[.ref p]/\(SqL X.K H p ys∨SqT X.K H p ys)/\Q (.int ys.length) H):=by
 intro pins s σ H xs us Q I r h
 obtain⟨p,ys,rfl,hq,q⟩:=h
 obtain⟨u,rfl,rx⟩:=m0d r
 cases rx
 have hn:=o0x
 rcases hq with hq | hq
 ·obtain⟨its,r',pl,hz⟩:=I.list hq
  have hlen:=r'.length
  exact Calls.call_len_list pl.isList (by simp only[List.size_toArray] <;> omega) ⟨.int ys.length,H,I.tok _,⟨s.toks+1,by rw[List.size_toArray,hlen]⟩,q⟩
 ·obtain⟨its,r',pl,hz⟩:=I.tuple hq
  have hlen:=r'.length
  exact len_tuple pl (by simp only[List.size_toArray] <;> omega) ⟨.int ys.length,H,I.tok _,⟨s.toks+1,by rw[List.size_toArray,hlen]⟩,q⟩
theorem n0n:i0a X (.type "tuple") (fun xs H Q=>∃p ys,xs=[.ref p]/\((SqL X.K H p ys/\∀l,H l=none->Q (.ref l) (upd H l (.tup ys)))∨(SqT X.K H p ys/\Q (.ref p) H))):=by
 intro pins s σ H xs us Q I r h
 obtain⟨p,ys,rfl,h⟩:=h
 obtain⟨u,rfl,rx⟩:=m0d r
 cases rx
 rcases h with⟨hq,q⟩ | ⟨hq,q⟩
 ·obtain⟨its,r',pl,hz⟩:=I.list hq
  have hlen:=r'.length
  refine call_tuple_list pl.isList (fun h' kp=>?_) (by simp only[List.size_toArray] <;> omega)
  have I1:Inv X pins σ H {s with heap:=h'}:=I.kept (t':=s.toks) kp
  have I2:Inv X pins σ (upd H h'.objs.size (.tup ys)) {s with heap:=h'.push {cls:=.type "tuple",data:=.seq its.toArray}} :=
   I1.laid (t':=s.toks) (fun b o e=>Heap.get?_push_of_some _ e) (Nat.le_refl _) (show c0s X.prog X.w _ _ _ (.tup ys)from⟨hz,its,r',IsTup.new _ _⟩)
  exact⟨.ref h'.objs.size,_,I2,rfl,q _ (I1.hok.fresh (Nat.le_refl _))⟩
 ·obtain⟨its,r',pl,hz⟩:=I.tuple hq
  exact call_tuple_same pl ⟨.ref p,H,I,rfl,q⟩
def tyV (K:PySem.W.Frag)(T:String)(x:V)(H:Hp):Prop:=match x with
 | .str _=>T = "str"
 | .int _=>T = "int"
 | .ref p=>(T = "list" /\ ∃xs,SqL K H p xs)∨(T = "tuple" /\ ∃o,K.lookup p=some o/\o.cls = .type "tuple" /\ o.dict=none) ∨
   (T = "dict" /\ ((∃kvs,H p=some (.dK kvs)) ∨ ∃kvs,H p=some (.dT kvs)))∨(T = "set" /\ ∃S n,H p=some (.set S n))
 | _=>False
theorem b1m {pins:List (Addr×Obj)}{σ:St}{H:Hp}{s:Shared}{T:String}{x:V}{v:Value}(I:Inv X pins σ H s)(r:RelV x v)(ty:tyV X.K T x H) :
  s.TypeIs v T/\∀a,v = .ref a->∃ob,s.heap.get? a=some ob/\ob.dict=none:=by
 cases x with
 | str z =>
  obtain⟨t,rfl⟩:=r
  cases (show T = "str" from ty)
  exact⟨typeIs_str s z t,fun _ e=>nomatch e⟩
 | int i =>
  obtain⟨t,rfl⟩:=r
  cases (show T = "int" from ty)
  exact⟨typeIs_int s i t,fun _ e=>nomatch e⟩
 | ref p =>
  cases r
  rcases ty with⟨rfl,xs,hq⟩ | ⟨rfl,o,hk,hc,hd⟩ | ⟨rfl,hk⟩ | ⟨rfl,S,n,hk⟩
  ·obtain⟨its,_,pl,_⟩:=I.list hq
   refine⟨pl.isList.typeIs,fun a e=>?_⟩
   cases e
   obtain⟨o,n,e,c,hd,_⟩:=pl
   exact⟨o,e,hd⟩
  ·refine⟨⟨o,I.kIn p o hk,hc⟩,fun a e=>?_⟩
   cases e
   exact⟨o,I.kIn _ o hk,hd⟩
  ·have z:∃o,s.heap.get? p=some o/\o.ExactDict:=by
    rcases hk with⟨kvs,hk⟩ | ⟨kvs,hk⟩
    ·obtain⟨_,_,_,_,o,_,_,e,ex,_⟩:=I.hok p _ hk
     exact⟨o,e,ex⟩
    ·obtain⟨_,_,_,_,o,_,_,e,ex,_⟩:=I.hok p _ hk
     exact⟨o,e,ex⟩
   obtain⟨o,e,ex⟩:=z
   refine⟨⟨o,e,ex.1⟩,fun a e2=>?_⟩
   cases e2
   exact⟨o,e,ex.2.1⟩
  ·obtain⟨o,_,_,_,e,ex,_⟩:=I.hok p _ hk
   refine⟨⟨o,e,ex.1⟩,fun a e2=>?_⟩
   cases e2
   exact⟨o,e,ex.2.1⟩
 | _=>exact False.elim ty
def tBM0 (K:PySem.W.Frag)(T:String)(r:V->List V->Hp->VK->Prop)(to:TE):TE:=fun σ H Q=>to σ H fun x H1=>tyV K T x H1/\r x [] H1 Q
def tBM (K:PySem.W.Frag)(T:String)(r:V->List V->Hp->VK->Prop)(to:TE)(t:TA):TE:=fun σ H Q=>to σ H fun x H1=>tyV K T x H1/\t σ H1 fun xs H2=>r x xs H2 Q
variable {o e:Expr}{es:List Expr}{to:TE}{t:TA}{name:Str}{apos cpos:Pos}{T id:String}{r:V->List V->Hp->VK->Prop}
theorem h1a (pa:PlainAttrs T)(slot:Slot T name id)(hty:typeOf (.builtin id)=pure (.type "method_descriptor"))(hm:MtR X id r)(ho:PE X o to)
  (hbase:attributeBase o name X.env (eval o X.env)=eval o X.env:=by rfl) (hline:(apos.endLine==cpos.line)=true:=by rfl):PE X (.Call (.Attribute o name apos) [] [] cpos) (tBM0 X.K T r to):=by
 intro pins s σ H Q I h
 refine wpAny_Call_method0_late hbase hline (thn (ho pins s σ H _ I h) fun v s1 ⟨x,H1,I1,r1,ty,q1⟩=>?_)
 obtain⟨h1,h2⟩:=b1m I1 r1 ty
 exact⟨T,id,pa,slot,hty,h1,h2,Calls.callWith_builtin rfl (PySem.evalArgs_none (hm pins s1 σ H1 x [] v [] Q I1 r1 .nil q1))⟩
theorem j1c (pa:PlainAttrs T)(slot:Slot T name id)(hty:typeOf (.builtin id)=pure (.type "method_descriptor"))(hm:MtR X id r)(ho:PE X o to)(ha:PA X (e::es) t)
  (hbase:attributeBase o name X.env (eval o X.env)=eval o X.env:=by rfl)
  (hfew:((backTo cpos (starEach (e::es) X.env)).all (fun x=>!x.1)&&(backToKw cpos (keywordEach [] X.env)).all (fun x=>x.1.isSome)
   && decide ((e::es).length+([]:List Keyword).length+(if([]:List Keyword).isEmpty then 0 else 1)<30))=true:=by rfl)
  (hline:(apos.endLine==cpos.line)=true:=by rfl) (hs:starEach (e::es) X.env=(false,eval e X.env)::starEach es X.env:=by rfl) (hplain:(backTo cpos (starEach es X.env)).any (·.1)=false:=by rfl) :
  PE X (.Call (.Attribute o name apos) (e::es) [] cpos) (tBM X.K T r to t):=by
 intro pins s σ H Q I h
 refine wpAny_Call_method_late hbase hfew hline rfl (thn (ho pins s σ H _ I h) fun v s1 ⟨x,H1,I1,r1,ty,q1⟩=>?_)
 obtain⟨h1,h2⟩:=b1m I1 r1 ty
 refine⟨T,id,pa,slot,hty,h1,h2,?_⟩
 have hA:=ha cpos pins s1 σ H1 _ I1 q1
 rw[hs]at hA ⊢
 refine Calls.callWith_builtin (by show(false||(backTo cpos (starEach es X.env)).any (·.1))=false;rw[hplain] <;> rfl) (Calls.evalArgs_plain ?_)
 exact thn hA fun us s2 ⟨vs,H2,I2,r2,q2⟩=>hm pins s2 σ H2 x vs v us Q I2 r1 r2 q2
end
def MtM (X:Cx)(id:String)(r:V->List V->Hp->VK->Prop):Prop :=
 ∀(pins:List (Addr×Obj)) (s:Shared) (σ:St) (H:Hp) (x:V) (xs:List V) (v:Value) (us:List Value) (Q:VK),Inv X pins σ H s->RelV x v->Vals xs us->r x xs H Q ->
  wpAny (model X.prog X.w) X.A (call (.builtin id) (v::us)) (EP X pins σ Q) X.xe s
theorem Vals.one:∀ {x:V} {us:List Value},Vals [x] us->∃u,us=[u]/\RelV x u
 | _,_,.cons r .nil=>⟨_,rfl,r⟩
section
variable {X:Cx}{pins:List (Addr×Obj)}{σ:St}{H:Hp}{s:Shared}{l b:Addr}{xs ys zs:List V}
theorem Inv.lset {its its':List Value}{n:Nat}{f:Array Value->Array Value}{t':Nat}(I:Inv X pins σ H s)(hH:H l=some (.lst xs))
  (e:s.heap.get? l=some {cls:=.type "list",data:=.seq its.toArray n}) (hf:f its.toArray=its'.toArray) (hv:Vals ys its') (hz:ys.length<=sizeLine) :
  Inv X pins σ (upd H l (.lst ys)) {s with heap:=s.heap.update l (Obj.mapSeq f),toks:=t'}:=by
 have q:=PySem.IsL.update e f
 rw[hf]at q
 refine I.write (x:=l) (e:=l) (by rw[hH];exact trivial) (.inl rfl) (fun b' u hb hu=>(Heap.get?_update_other s.heap (Obj.mapSeq f) (Ne.symm hb)).trans hu) ⟨_,q⟩ ?_
 exact⟨hz,its',_,hv,q⟩
theorem Inv.lstM (I:Inv X pins σ H s)(hH:H l=some (.lst xs)):xs.length<=sizeLine/\∃(its:List Value) (n:Nat),Vals xs its/\xs.length=its.length/\s.heap.get? l=some {cls:=.type "list",data:=.seq its.toArray n}:=by
 obtain⟨z,its,n,r,e⟩:=I.hok l _ hH
 exact⟨z,its,n,r,r.length,e⟩
end
section
variable {X:Cx}
def rAppend:V->List V->Hp->VK->Prop:=fun x vs H Q=>∃l xs y,x = .ref l/\vs=[y]/\H l=some (.lst xs)/\xs.length<sizeLine/\Q .non (upd H l (.lst (xs++[y])))
theorem g0k:MtM X "list.append" rAppend:=by
 intro pins s σ H x vs v us Q I rx rv h
 obtain⟨l,xs,y,rfl,rfl,hH,hz,q⟩:=h
 cases rx
 obtain⟨u,rfl,ru⟩:=rv.one
 obtain⟨z,its,n,r,hl,e⟩:=I.lstM hH
 refine call_meets F.slot_list_append ⟨_,e,rfl⟩ F.entry_list_append (F.args_list_append_2 _ _) (PySem.list_append l its.toArray n u (by rw[List.size_toArray];omega)) ⟨e,?_⟩
 refine⟨.non,_,I.lset (its':=its++[u]) hH e (by simp) (r.append (.cons ru .nil)) ?_,rfl,q⟩
 rw[List.length_append,List.length_singleton]
 omega
end
section
variable {κ:Type} [DecidableEq κ]
def valV (kvs:List (κ×V))(k:κ):Option V:=(kvs.find? fun kv=>decide (kv.1=k)).map (·.2)
def putK (kvs:List (κ×V))(k:κ)(v:V):List (κ×V) :=
 if(kvs.any fun kv=>decide (kv.1=k))=true then kvs.map (fun kv=>if kv.1=k then(kv.1,v)else kv)else kvs++[(k,v)]
theorem i0x {p:κ×V}{r:List (κ×V)}{k:κ}(e:p.1=k):valV (p::r) k=some p.2:=by simp[valV,List.find?_cons,e]
theorem i0y {p:κ×V}{r:List (κ×V)}{k:κ}(e:¬p.1=k):valV (p::r) k=valV r k:=by simp[valV,List.find?_cons,e]
theorem r0v (k:κ):∀kvs:List (κ×V),(kvs.any fun kv=>decide (kv.1=k))=(valV kvs k).isSome
 | []=>rfl
 | p::r=>by
  rw[List.any_cons]
  by_cases e:p.1=k
  ·simp only[i0x e,decide_eq_true e,Bool.true_or,Option.isSome_some]
  ·rw[i0y e,decide_eq_false e,Bool.false_or];exact r0v k r
theorem h0h (kvs:List (κ×V))(k:κ)(v:V):(putK kvs k v).length<=kvs.length+1:=by
 unfold putK
 split
 ·rw[List.length_map];omega
 ·rw[List.length_append,List.length_cons,List.length_nil];omega
theorem RelO.isSome_eq {o:Option V}{u:Option Value}(r:RelO o u):o.isSome=u.isSome:=by
 cases o with
 | none=>cases u with
  | none=>rfl
  | some _=>exact(show False from r).elim
 | some _=>cases u with
  | none=>exact(show False from r).elim
  | some _=>rfl
theorem RelO.getD {o:Option V}{u:Option Value}{d:V}{d':Value}(r:RelO o u)(rd:RelV d d'):RelV (o.getD d) (u.getD d'):=by
 cases o with
 | none=>cases u with
  | none=>exact rd
  | some _=>exact(show False from r).elim
 | some _=>cases u with
  | none=>exact(show False from r).elim
  | some _=>exact r
theorem KV.val {kvs:List (κ×V)}{vs:List (κ×Value)}(r:KV kvs vs)(k:κ):RelO (valV kvs k) (valueAt vs k):=by
 unfold KV at r
 induction r with
 | nil=>exact True.intro
 | @cons p q ps qs h t ih =>
  obtain⟨h1,h2⟩:=h
  by_cases e:p.1=k
  ·have e':q.1=k:=h1.symm.trans e
   have b:valueAt (q::qs) k=some q.2:=by simp[valueAt,List.find?_cons,e']
   rw[i0x e,b];exact h2
  ·have e':¬q.1=k:=fun z=>e (h1.trans z)
   have b:valueAt (q::qs) k=valueAt qs k:=by simp[valueAt,List.find?_cons,e']
   rw[i0y e,b];exact ih
theorem KV.any {kvs:List (κ×V)}{vs:List (κ×Value)}(r:KV kvs vs)(k:κ):(kvs.any fun kv=>decide (kv.1=k))=vs.any fun kv=>decide (kv.1=k):=by
 unfold KV at r
 induction r with
 | nil=>rfl
 | cons h t ih=>rw[List.any_cons,List.any_cons,ih,h.1]
theorem KV.repl {kvs:List (κ×V)}{vs:List (κ×Value)}(r:KV kvs vs)(k:κ){y:V}{u:Value}(ry:RelV y u) :
  KV (kvs.map fun kv=>if kv.1=k then(kv.1,y)else kv) (vs.map fun kv=>if kv.1=k then(kv.1,u)else kv):=by
 unfold KV at r ⊢
 induction r with
 | nil=>exact .nil
 | @cons p q ps qs h t ih =>
  rw[List.map_cons,List.map_cons]
  refine .cons ?_ ih
  obtain⟨h1,h2⟩:=h
  by_cases e:p.1=k
  ·rw[if_pos e,if_pos (h1.symm.trans e)];exact⟨h1,ry⟩
  ·rw[if_neg e,if_neg (fun z=>e (h1.trans z))];exact⟨h1,h2⟩
theorem KV.put {kvs:List (κ×V)}{vs:List (κ×Value)}(r:KV kvs vs)(k:κ){y:V}{u:Value}(ry:RelV y u):KV (putK kvs k y) (stored vs k u):=by
 unfold putK stored
 rw[r.any k]
 by_cases e:(vs.any fun kv=>decide (kv.1=k))=true
 ·rw[if_pos e,if_pos e];exact r.repl k ry
 ·rw[if_neg e,if_neg e];exact Paired.snoc r ⟨rfl,ry⟩
theorem KV.length {kvs:List (κ×V)}{vs:List (κ×Value)}(r:KV kvs vs):kvs.length=vs.length:=Paired.length r
end
theorem w0z {P:Program}{w:World}{k:Key}{u:Value}(r:RelV (kV k) u):(c0g P w).is k u=true:=by
 cases k with
 | inl i=>obtain⟨t,e⟩:=(show ∃t,u=Value.int i t from r);subst e;exact r0e P w i t
 | inr x=>obtain⟨t,e⟩:=(show ∃t,u=Value.str x t from r);subst e;exact r0d P w x t
theorem p0b {P:Program}{w:World}:∀ {ks:List Key} {us:List Value},Vals (ks.map kV) us->ItemsAre (c0g P w) ks us
 | [],_,r=>by rw[List.map_nil]at r;cases r;exact .nil
 | k::ks,_,r=>by
  rw[List.map_cons]at r
  cases r with
  | cons h t=>exact .cons (w0z h) (p0b t)
abbrev KT (H:Hp):List (List Key×V)->List (List Key×Addr×Value)->Prop:=Paired fun p q=>p.1=q.1/\H q.2.1=some (.tup (p.1.map kV))/\RelV p.2 q.2.2
theorem KT.val {H:Hp}{kvs:List (List Key×V)}{xs:List (List Key×Addr×Value)}(r:KT H kvs xs)(k:List Key):RelO (valV kvs k) ((atKey xs k).map (·.2)):=by
 induction r with
 | nil=>exact True.intro
 | @cons p q ps qs h t ih =>
  obtain⟨h1,_,h2⟩:=h
  by_cases e:p.1=k
  ·have e':q.1=k:=h1.symm.trans e
   have b:atKey (q::qs) k=some q.2:=by simp[atKey,List.find?_cons,e']
   rw[i0x e,b];exact h2
  ·have e':¬q.1=k:=fun z=>e (h1.trans z)
   have b:atKey (q::qs) k=atKey qs k:=by simp[atKey,List.find?_cons,e']
   rw[i0y e,b];exact ih
theorem KT.repl {H:Hp}{kvs:List (List Key×V)}{xs:List (List Key×Addr×Value)}(r:KT H kvs xs)(k:List Key){y:V}{u:Value}(ry:RelV y u) :
  KT H (kvs.map fun kv=>if kv.1=k then(kv.1,y)else kv) (xs.map (putAt k u)):=by
 induction r with
 | nil=>exact .nil
 | @cons p q ps qs h t ih =>
  rw[List.map_cons,List.map_cons]
  refine .cons ?_ ih
  obtain⟨h1,h2,h3⟩:=h
  unfold putAt
  by_cases e:p.1=k
  ·rw[if_pos e,if_pos (h1.symm.trans e)];exact⟨h1,h2,ry⟩
  ·rw[if_neg e,if_neg (fun z=>e (h1.trans z))];exact⟨h1,h2,h3⟩
theorem KT.put {H:Hp}{kvs:List (List Key×V)}{xs:List (List Key×Addr×Value)}(r:KT H kvs xs)(k:List Key){b:Addr}{y:V}{u:Value}(hb:H b=some (.tup (k.map kV)))(ry:RelV y u) :
  KT H (putK kvs k y) (storedH xs k b u):=by
 have e:(kvs.any fun kv=>decide (kv.1=k))=(atKey xs k).isSome:=by
  rw[r0v,(r.val k).isSome_eq,Option.isSome_map]
 unfold putK storedH
 rw[e]
 by_cases q:(atKey xs k).isSome=true
 ·rw[if_pos q,if_pos q];exact r.repl k ry
 ·rw[if_neg q,if_neg q];exact Paired.snoc r ⟨rfl,hb,ry⟩
theorem KT.keeps {H H':Hp}{kvs:List (List Key×V)}{xs:List (List Key×Addr×Value)}(r:KT H kvs xs)(ht:∀b ys,H b=some (.tup ys)->H' b=some (.tup ys)):KT H' kvs xs :=
 Paired.mapP r fun _ _ z=>⟨z.1,ht _ _ z.2.1,z.2.2⟩
section
variable {P:Program}{w:World}{H:Hp}{h:Heap}{a:Addr}
theorem g1o {u:HO}(ok:HOk P w H h)(e:Rd H a u):c0s P w H h a u:=e.ok ok
theorem x0x {kvs:List (Key×V)}(ok:HOk P w H h)(e:Rd H a (.dK kvs)):kvs.length<=sizeLine/\(a==sysModules)=false/\∃vs,KV kvs vs/\h.DictOf (c0g P w) a vs :=
 show c0s P w H h a (.dK kvs)from g1o ok e
theorem i1i {kvs:List (Key×V)}(ok:HOk P w H h)(e:H a=some (.dK kvs)):kvs.length<=sizeLine/\(a==sysModules)=false/\∃vs,KV kvs vs/\h.DictOf (c0g P w) a vs:=x0x ok (.inl e)
theorem s0t {ks:List Key}(ok:HOk P w H h)(e:H a=some (.tup (ks.map kV))):(tupleKind (c0g P w)).is h ks a:=by
 obtain⟨_,its,r,o,h1,h2,n,h3⟩:=(show c0s P w H h a (.tup (ks.map kV))from ok a _ e)
 exact⟨o,its.toArray,n,h1,h2,h3,by simpa using p0b r⟩
theorem x0v {kvs:List (List Key×V)}(ok:HOk P w H h)(e:Rd H a (.dT kvs)):kvs.length<=sizeLine/\(a==sysModules)=false /\
  ∃xs,KT H kvs xs/\h.DictOfH (tupleKind (c0g P w)) a xs:=by
 obtain⟨z,y,xs,r,o,es,ep,h1,h2,h3,h4,h5⟩:=(show c0s P w H h a (.dT kvs)from g1o ok e)
 refine⟨z,y,xs,r,o,es,ep,h1,h2,h3,h4,fun x hx=>?_,h5⟩
 have all:∀ {l:List (List Key×V)} {m:List (List Key×Addr×Value)},KT H l m->∀x∈m,(tupleKind (c0g P w)).is h x.1 x.2.1:=by
  intro l m q
  induction q with
  | nil=>intro x hx;exact nomatch hx
  | @cons p q ps qs hq t ih =>
   intro x hx
   rcases List.mem_cons.mp hx with e | hx
   ·subst e
    exact s0t ok (by rw[<- hq.1];exact hq.2.1)
   ·exact ih x hx
 exact all r x hx
theorem j1k {kvs:List (List Key×V)}(ok:HOk P w H h)(e:H a=some (.dT kvs)):kvs.length<=sizeLine/\(a==sysModules)=false /\
  ∃xs,KT H kvs xs/\h.DictOfH (tupleKind (c0g P w)) a xs:=x0v ok (.inl e)
end
def DGet (H:Hp)(a:Addr)(y:V)(r:Option V):Prop :=
 (∃kvs k,Rd H a (.dK kvs)/\y=kV k/\r=valV kvs k) ∨ ∃kvs k b,Rd H a (.dT kvs)/\y = .ref b/\H b=some (.tup (k.map kV))/\r=valV kvs k
def DPut (H:Hp)(a:Addr)(y v:V)(H':Hp):Prop :=
 (∃kvs k,H a=some (.dK kvs)/\y=kV k/\kvs.length<sizeLine/\H'=upd H a (.dK (putK kvs k v))) ∨
 ∃kvs k b,H a=some (.dT kvs)/\y = .ref b/\H b=some (.tup (k.map kV))/\kvs.length<sizeLine/\H'=upd H a (.dT (putK kvs k v))
theorem DGet.k {H:Hp}{a:Addr}{kvs:List (Key×V)}{k:Key}(e:H a=some (.dK kvs)):DGet H a (kV k) (valV kvs k):=.inl ⟨kvs,k,.inl e,rfl,rfl⟩
theorem DGet.t {H:Hp}{a b:Addr}{kvs:List (List Key×V)}{k:List Key}(e:H a=some (.dT kvs))(eb:H b=some (.tup (k.map kV))):DGet H a (.ref b) (valV kvs k):=.inr ⟨kvs,k,b,.inl e,rfl,eb,rfl⟩
theorem DPut.k {H:Hp}{a:Addr}{kvs:List (Key×V)}{k:Key}{v:V}(e:H a=some (.dK kvs))(hl:kvs.length<sizeLine):DPut H a (kV k) v (upd H a (.dK (putK kvs k v))):=.inl ⟨kvs,k,e,rfl,hl,rfl⟩
theorem DPut.t {H:Hp}{a b:Addr}{kvs:List (List Key×V)}{k:List Key}{v:V}(e:H a=some (.dT kvs))(eb:H b=some (.tup (k.map kV)))(hl:kvs.length<sizeLine) :
  DPut H a (.ref b) v (upd H a (.dT (putK kvs k v))):=.inr ⟨kvs,k,b,e,rfl,eb,hl,rfl⟩
section
variable {X:Cx}{pins:List (Addr×Obj)}{σ:St}{H:Hp}{s:Shared}{a:Addr}{y v:V}{u r:Value}{o:Option V}{A:Around}{E:Value->Shared->Prop}
theorem Inv.big (I:Inv X pins σ H s):sysModules<s.heap.objs.size:=by
 have h:mainGlobals<s.heap.objs.size:=(I.mod.glob.keeps I.bk).lt
 exact Nat.lt_trans (by decide) h
theorem x0z {Q:Value->Shared->Prop}(hu:A.units+1<cLine)(I:Inv X pins σ H s)(g:DGet H a y (some v))(ry:RelV y u)(h:∀w' s',Inv X pins σ H s'->RelV v w'->Q w' s') :
  wpAny (model X.prog X.w) A (getItem (.ref a) u) Q E s:=by
 rcases g with⟨kvs,k,e,ey,l⟩ | ⟨kvs,k,b,e,ey,eb,l⟩
 ·subst ey
  obtain⟨z,hd,vs,rel,dd⟩:=x0x I.hok e
  obtain⟨w',hw,rw'⟩:=RelO.some_of (v:=v) (o:=valueAt vs k) (by rw[l];exact rel.val k)
  exact wpAny_getItem_of (w0z ry) dd.mapOf hw (h w' _ (I.tok _) rw')
 ·subst ey
  cases (show u=Value.ref b from ry)
  obtain⟨z,hd,xs,rel,dd⟩:=x0v I.hok e
  obtain⟨w',hw,rw'⟩:=RelO.some_of (v:=v) (o:=(atKey xs k).map (·.2)) (by rw[l];exact rel.val k)
  obtain⟨p,hp,hp2⟩:=Option.map_eq_some_iff.mp hw
  refine wpAny_getItem_heap (tupleKind_room_in1 hu) (s0t I.hok eb) dd hp ?_
  rw[hp2]
  exact h w' _ (I.tok _) rw'
theorem r0o {h':Heap}{t':Nat}{ob:HO}(I:Inv X pins σ H s)(mu:Mut (H a))(hs:Heap.SameBut a s.heap h')(he:∃q,h'.get? a=some q)(new:c0s X.prog X.w (upd H a ob) h' a ob) :
  Inv X pins σ (upd H a ob) {s with heap:=h',toks:=t'} :=
 I.write (x:=a) (e:=a) mu (.inl rfl) (fun b q hb z=>(hs.2 b hb).trans z) he new
theorem c1j {P:Program}{w:World}{H':Hp}{h':Heap}{kvs:List (Key×V)}{vs:List (Key×Value)}(z:kvs.length<=sizeLine)(hd:(a==sysModules)=false)(rel:KV kvs vs)(dd:h'.DictOf (c0g P w) a vs) :
  c0s P w H' h' a (.dK kvs):=⟨z,hd,vs,rel,dd⟩
theorem x0y {H':Hp}{Q:Unit->Shared->Prop}(hu:A.units+1<cLine)(I:Inv X pins σ H s)(g:DPut H a y v H')(ry:RelV y u)(rv:RelV v r)(h:∀s',Inv X pins σ H' s'->Q () s') :
  wpAny (model X.prog X.w) A (setItem (.ref a) u r) Q E s:=by
 rcases g with⟨kvs,k,e,ey,l,eH⟩ | ⟨kvs,k,b,e,ey,eb,l,eH⟩
 ·subst ey eH
  obtain⟨z,hd,vs,rel,dd⟩:=i1i I.hok e
  have hz:vs.length<=sizeLine:=by rw[<- rel.length];exact z
  have hl:(putK kvs k v).length<=sizeLine:=by have:=h0h kvs k v;omega
  refine wpAny_setItem_pairs (hsz:=hz) (w0z ry) dd fun h' dd' hs=>h _ ?_
  have he:∃q,h'.get? a=some q:=let ⟨q,_,_,hq,_⟩:=dd';⟨q,hq⟩
  exact r0o I (by rw[e];exact True.intro) hs he (c1j hl hd (rel.put k rv) dd')
 ·subst ey eH
  cases (show u=Value.ref b from ry)
  obtain⟨z,hd,xs,rel,dd⟩:=j1k I.hok e
  have hz:xs.length<=sizeLine:=by rw[<- Paired.length rel];exact z
  have hl:(putK kvs k v).length<=sizeLine:=by have:=h0h kvs k v;omega
  refine wpAny_setItem_heap (hsz:=hz) (tupleKind_room_in1 hu) (s0t I.hok eb) dd fun h' dd' hs=>h _ ?_
  obtain⟨q,es,ep,hq,h2,h3,h4,_,h5⟩:=dd'
  refine r0o I (by rw[e];exact True.intro) hs ⟨q,hq⟩ ⟨hl,hd,_,(rel.put k eb rv).keeps fun c ys ec=>?_,q,es,ep,hq,h2,h3,h4,h5⟩
  rw[a0o (d1y ec e (fun z=>nomatch z))]
  exact ec
end
def NoSl (i:Expr):Prop:=∀ov iv,subscripted i false ov iv=operate [ov,iv] (getItem ov iv)
theorem d1c {prog:Program}{w:World}{A:Around}{E:Value->Shared->Prop}{s:Shared}{env:Env}{value slice:Expr}{pos:Pos}{T id:String}{Q:Value->Shared->Prop}
  (hl:typeLookup (.type T) "__getitem__" = pure (some (.builtin id))) (hs:NoSl slice)
  (h:wpAny (model prog w) A (eval value env) (fun o s₁=>wpAny (model prog w) A (eval slice env) (fun i s₂=>s₂.TypeIs o T/\wpAny (model prog w) A (getItem o i) Q E s₂) E s₁) E s) :
  wpAny (model prog w) A (eval (.Subscript value slice pos) env) Q E s:=by
 refine Subscript_ (wpAny_mono h (fun o s₁ h₁=>wpAny_mono h₁ (fun i s₂ h₂=>?_) fun _ _ x=>x) fun _ _ x=>x)
 obtain⟨hT,h₂⟩:=h₂
 unfold subscriptTail
 refine wpAny_bind ?_
 rw[getitemInPython_of_ne hT.not_modules]
 refine wpAny_bind (wpAny_specialOf hT hl ?_)
 have fin:wpAny (model prog w) A (subscripted slice false o i) (fun r s₃=>wpAny (model prog w) A (letTemporaryGo value o r>>=fun _=>pure r) Q E s₃) E s₂:=by
  rw[hs o i]
  exact wpAny_operating (wpAny_mono h₂ (fun r s₃ h₃=>wpAny_bind (wpAny_letTemporaryGo (wpAny_pure h₃))) fun _ _ x=>x)
 first
  | exact wpAny_pure (wpAny_bind fin)
  | exact wpAny_bind (wpAny_pure (wpAny_bind fin))
  | exact wpAny_bind fin
theorem r0l {X:Cx}{pins:List (Addr×Obj)}{σ:St}{H:Hp}{s:Shared}{a:Addr}{y:V}{o:Option V}(I:Inv X pins σ H s)(g:DGet H a y o):s.TypeIs (.ref a) "dict" := by
 rcases g with⟨kvs,k,e,_,_⟩ | ⟨kvs,k,b,e,_,_,_⟩
 ·obtain⟨_,_,vs,_,dd⟩:=x0x I.hok e
  exact dd.typeIs
 ·obtain⟨_,_,xs,_,dd⟩:=x0v I.hok e
  exact dd.typeIs
def g1i (td ty:TE):TE:=fun σ H Q=>td σ H fun x H1=>ty σ H1 fun y H2=>∃a v,x = .ref a/\DGet H2 a y (some v)/\Q v H2
def d1g (td ty tv:TE):TS:=fun D σ H=>tv σ H fun v H1=>td σ H1 fun x H2=>ty σ H2 fun y H3=>∃a H4,x = .ref a/\DPut H3 a y v H4/\D.nx σ H4
section
variable {X:Cx}{o i e value:Expr}{pos pos' tpos:Pos}{td ty tv:TE}
theorem h0f (hu:X.A.units+1<cLine)(ho:PE X o td)(hi:PE X i ty)(hs:NoSl i):PE X (.Subscript o i pos) (g1i td ty):=by
 intro pins s σ H Q I h
 refine d1c PySem.F.slot_dict_getitem.lookup hs (thn (ho pins s σ H _ I h) fun u s1 ⟨x,H1,I1,rx,q1⟩=>thn (hi pins s1 σ H1 _ I1 q1) fun iv s2 ⟨y,H2,I2,ry,a,v,ex,g,q2⟩=>?_)
 subst ex
 obtain rfl:u=Value.ref a:=rx
 exact⟨r0l I2 g,x0z hu I2 g ry fun w' s3 I3 rw'=>⟨v,H2,I3,rw',q2⟩⟩
theorem j0r (hu:X.A.units+1<cLine)(ho:PE X o td)(hi:PE X i ty)(hv:PE X value tv)(hs:swapsWith value (some (.Subscript o i pos')) pos.line X.env=pure false) :
  PS X (.Assign [.Subscript o i pos'] value pos) (d1g td ty tv):=by
 intro pins s σ H D I h
 refine wpAny_Assign_Subscript (thn (hv pins s σ H _ I h) fun r s1 ⟨v,H1,I1,rv,q1⟩=>thn (ho pins s1 σ H1 _ I1 q1) fun u s2 ⟨x,H2,I2,rx,q2⟩=>thn (hi pins s2 σ H2 _ I2 q2) fun iv s3 ⟨y,H3,I3,ry,a,H4,ex,g,q3⟩=>?_) hs
 subst ex
 obtain rfl:u=Value.ref a:=rx
 exact x0y hu I3 g ry rv fun s4 I4=>⟨σ,H4,I4,q3⟩
end
theorem a1k {P:Program}{w:World}{H:Hp}(h:Heap)(hb:sysModules<h.objs.size):c0s P w H (h.push {cls:=.type "dict",data:=.dict #[]}) h.objs.size (.dK []) :=
 ⟨Nat.zero_le _,beq_eq_false_iff_ne.mpr (Ne.symm (Nat.ne_of_lt hb)),[],.nil,Heap.DictOf.new h⟩
theorem a1j {P:Program}{w:World}{H:Hp}(h:Heap)(hb:sysModules<h.objs.size):c0s P w H (h.push {cls:=.type "dict",data:=.dict #[]}) h.objs.size (.dT []) :=
 ⟨Nat.zero_le _,beq_eq_false_iff_ne.mpr (Ne.symm (Nat.ne_of_lt hb)),[],.nil,_,#[],0,Heap.get?_push_size _ rfl,⟨rfl,rfl,rfl⟩,rfl,rfl,List.nodup_nil⟩
def tDNewT:TE:=fun _ H Q=>∀p,H p=none->Q (.ref p) (upd H p (.dT []))
section
variable {X:Cx}{pos:Pos}
theorem s0i:PE X (.Dict [] [] pos) tDNewT:=fun pins s σ H Q I h =>
 wpAny_Dict_empty ⟨.ref s.heap.objs.size,_,I.laid (a:=s.heap.objs.size) (o:=.dT []) (t':=s.toks) (fun _ _ q=>Heap.get?_push_of_some _ q) (Nat.le_refl _) (a1j s.heap I.big),rfl,h _ (I.hok.fresh (Nat.le_refl _))⟩
end
def v0o:List (TE×TE)->St->Hp->(List (V×V)->Hp->Prop)->Prop
 | [],_,H,Q=>Q [] H
 | (tk,tv)::r,σ,H,Q=>tk σ H fun x H1=>tv σ H1 fun y H2=>v0o r σ H2 fun ps H3=>Q ((x,y)::ps) H3
abbrev VV:List (V×V)->List (Value×Value)->Prop:=Paired fun p q=>RelV p.1 q.1/\RelV p.2 q.2
def PPs (X:Cx)(pos:Pos)(keys:List (Option Expr))(values:List Expr)(trs:List (TE×TE)):Prop :=
 ∀(pins:List (Addr×Obj)) (s:Shared) (σ:St) (H:Hp) (Q:List (V×V)->Hp->Prop),Inv X pins σ H s->v0o trs σ H Q ->
  wpAny (model X.prog X.w) X.A (evalPairs (pairTrees keys values X.env pos)) (fun vs s'=>∃ps H',Inv X pins σ H' s'/\VV ps vs/\Q ps H') X.xe s
theorem d1k {X:Cx}{pos:Pos}:PPs X pos [] [] []:=fun pins s σ H Q I h=>pairTrees_nil_walk ⟨[],H,I,.nil,h⟩
theorem m0p {X:Cx}{pos:Pos}{k v:Expr}{ks:List (Option Expr)}{vs:List Expr}{tk tv:TE}{trs:List (TE×TE)}(hk:PE X k tk)(hv:PE X v tv)(hr:PPs X pos ks vs trs) :
  PPs X pos (some k::ks) (v::vs) ((tk,tv)::trs):=fun pins s σ H Q I h =>
 pairTrees_cons_walk (thn (hk pins s σ H _ I h) fun u s1 ⟨x,H1,I1,rx,q1⟩=>thn (hv pins s1 σ H1 _ I1 q1) fun w2 s2 ⟨y,H2,I2,ry,q2⟩ =>
  thn (hr pins s2 σ H2 _ I2 q2) fun ws s3 ⟨ps,H3,I3,rel,q3⟩=>⟨(x,y)::ps,H3,I3,.cons ⟨rx,ry⟩ rel,q3⟩)
def k0e (kvs more:List (Key×V)):List (Key×V):=more.foldl (fun acc kv=>putK acc kv.1 kv.2) kvs
theorem KV.merge:∀ {more:List (Key×V)} {rs:List (Key×Value)} {kvs:List (Key×V)} {vs:List (Key×Value)},KV more rs->KV kvs vs->KV (k0e kvs more) (merged vs rs):=by
 intro more rs kvs vs r
 unfold KV at r
 induction r generalizing kvs vs with
 | nil=>intro q;exact q
 | @cons p q ps qs h t ih =>
  intro r0
  have e:KV (putK kvs p.1 p.2) (stored vs q.1 q.2):=by
   have:=r0.put p.1 h.2
   rw[<- h.1];exact this
  exact ih e
theorem h0s:∀(more kvs:List (Key×V)),(k0e kvs more).length<=kvs.length+more.length
 | [],kvs=>by show kvs.length<=kvs.length+0;omega
 | p::r,kvs=>by
  have h1:=h0s r (putK kvs p.1 p.2)
  have h2:=h0h kvs p.1 p.2
  show(k0e (putK kvs p.1 p.2) r).length<=_
  rw[List.length_cons];omega
theorem m0c {P:Program}{w:World}:∀ {kvs:List (Key×V)} {ws:List (Value×Value)},VV (kvs.map fun kv=>(kV kv.1,kv.2)) ws->∃rs,Carries (c0g P w) ws rs/\KV kvs rs
 | [],_,r=>by rw[List.map_nil]at r;cases r;exact⟨[],True.intro,.nil⟩
 | p::kvs,_,r=>by
  rw[List.map_cons]at r
  cases r with
  | @cons a b as bs h t =>
   obtain⟨rs,c,q⟩:=m0c (P:=P) (w:=w) t
   obtain⟨b1,b2⟩:=b
   exact⟨(p.1,b2)::rs,⟨w0z h.1,rfl,c⟩,.cons ⟨rfl,h.2⟩ q⟩
def i1z (trs:List (TE×TE)):TE:=fun σ H Q=>∀p,H p=none->v0o trs σ (upd H p (.dK [])) fun ps H2=>H2 p=some (.dK [])/\∃kvs:List (Key×V),ps=kvs.map (fun kv=>(kV kv.1,kv.2))/\kvs.length<=15/\Q (.ref p) (upd H2 p (.dK (k0e [] kvs)))
theorem d1n {X:Cx}{pos:Pos}{keys:List (Option Expr)}{values:List Expr}{trs:List (TE×TE)}(h:PPs X pos keys values trs)(hall:keys.all (·.isSome)=true)(hl:keys.length=values.length)(h0:keys≠[])
  (h15:keys.length<=15):PE X (.Dict keys values pos) (i1z trs):=by
 intro pins s σ H Q I q
 have hn:=I.hok.fresh (Nat.le_refl s.heap.objs.size)
 have I1:=I.laid (a:=s.heap.objs.size) (o:=.dK []) (h':=s.heap.push {cls:=.type "dict",data:=.dict #[]}) (t':=s.toks) (fun _ _ q=>Heap.get?_push_of_some _ q) (Nat.le_refl _) (a1k s.heap I.big)
 refine wpAny_Dict_walk (knd:=c0g X.prog X.w) hall hl h0 h15 (thn (h pins _ σ _ _ I1 (q _ hn)) fun ws s2 ⟨ps,H2,I2,rel,e,kvs,ep,lk,q2⟩=>?_)
 subst ep
 obtain⟨rs,c,rk⟩:=m0c (P:=X.prog) (w:=X.w) rel
 obtain⟨z,hd,vs0,r0,dd⟩:=i1i I2.hok e
 cases r0
 refine⟨rs,c,dd,fun h' dd' hs=>⟨.ref s.heap.objs.size,_,?_,rfl,q2⟩⟩
 have hz:(k0e [] kvs).length<=sizeLine:=by
  have h1:=h0s kvs []
  rw[List.length_nil]at h1
  rw[sizeLine_eq];omega
 have he:∃q,h'.get? s.heap.objs.size=some q:=let ⟨q,_,_,hq,_⟩:=dd';⟨q,hq⟩
 exact r0o I2 (by rw[e];exact True.intro) hs he (c1j hz hd (rk.merge .nil) dd')
structure M2 (X:Cx)(o:Expr)(m:Str)(apos:Pos)(e f:Expr)(cpos:Pos):Prop where
 base:attributeBase o m X.env (eval o X.env)=eval o X.env
 few:((backTo cpos (starEach [e,f] X.env)).all (fun x=>!x.1)&&(backToKw cpos (keywordEach [] X.env)).all (fun x=>x.1.isSome)
  && decide (([e,f]:List Expr).length+([]:List Keyword).length+(if([]:List Keyword).isEmpty then 0 else 1)<30))=true
 line:(apos.endLine==cpos.line)=true
 trees:backTo cpos (starEach [e,f] X.env)=[(false,eval e X.env),(false,eval f X.env)]
def IsD (H:Hp)(a:Addr):Prop:=(∃kvs,Rd H a (.dK kvs)) ∨ ∃kvs,Rd H a (.dT kvs)
theorem c1e {X:Cx}{pins:List (Addr×Obj)}{σ:St}{H:Hp}{s:Shared}{a:Addr}(I:Inv X pins σ H s)(d:IsD H a) :
  s.TypeIs (.ref a) "dict" /\ (∀b,Value.ref a = .ref b->∃ob,s.heap.get? b=some ob/\ob.dict=none)/\(a==sysModules)=false:=by
 rcases d with⟨kvs,e⟩ | ⟨kvs,e⟩
 ·obtain⟨_,hd,vs,_,dd⟩:=x0x I.hok e
  refine⟨dd.typeIs,fun b q=>?_,hd⟩
  cases q
  obtain⟨ob,_,_,h1,h2,_⟩:=dd
  exact⟨ob,h1,h2.2.1⟩
 ·obtain⟨_,hd,xs,_,dd⟩:=x0v I.hok e
  refine⟨dd.typeIs,fun b q=>?_,hd⟩
  cases q
  obtain⟨ob,_,_,h1,h2,_⟩:=dd
  exact⟨ob,h1,h2.2.1⟩
section
variable {X:Cx}{pins:List (Addr×Obj)}{σ:St}{H:Hp}{s:Shared}{a:Addr}{y d:V}{u r:Value}{o:Option V}{A:Around}{E:Value->Shared->Prop}
theorem i1j {Q:Value->Shared->Prop}(hu:A.units+1<cLine)(I:Inv X pins σ H s)(g:DGet H a y o)(ry:RelV y u)(rd:RelV d r)(h:∀w' s',Inv X pins σ H s'->RelV (o.getD d) w'->Q w' s') :
  wpAny (model X.prog X.w) A (call (.builtin "dict.get") [.ref a,u,r]) Q E s:=by
 rcases g with⟨kvs,k,e,ey,l⟩ | ⟨kvs,k,b,e,ey,eb,l⟩
 ·subst ey
  obtain⟨z,hd,vs,rel,dd⟩:=x0x I.hok e
  refine call_meetsIn PySem.F.slot_dict_get dd.typeIs PySem.F.entry_dict_get (PySem.F.args_dict_get_3 _ _ _) (meets_dict_get_default (c0g X.prog X.w) a (w0z ry) hd r) ⟨_,dd.mapOf,h _ _ (I.tok _) ?_⟩
  rw[l]
  exact(rel.val k).getD rd
 ·subst ey
  cases (show u=Value.ref b from ry)
  obtain⟨z,hd,xs,rel,dd⟩:=x0v I.hok e
  refine call_meetsIn PySem.F.slot_dict_get dd.typeIs PySem.F.entry_dict_get (PySem.F.args_dict_get_3 _ _ _) (meetsH_dict_get_default (tupleKind (c0g X.prog X.w)) a b hd r) ⟨tupleKind_room_in1 hu,k,xs,s0t I.hok eb,dd,h _ _ (I.tok _) ?_⟩
  rw[l]
  exact(rel.val k).getD rd
end
def b1o (td ty tx:TE):TE:=fun σ H Q=>td σ H fun x H1=>∃a,x = .ref a/\IsD H1 a/\ty σ H1 fun y H2=>tx σ H2 fun z H3=>∃o,DGet H3 a y o/\Q (o.getD z) H3
section
variable {X:Cx}{o e f:Expr}{apos cpos:Pos}{td ty tx:TE}
theorem s0j (hu:X.A.units+1<cLine)(ho:PE X o td)(he:PE X e ty)(hf:PE X f tx)(m:M2 X o "get" apos e f cpos):PE X (.Call (.Attribute o "get" apos) [e,f] [] cpos) (b1o td ty tx):=by
 intro pins s σ H Q I h
 refine wpAny_Call_method m.base m.few m.line PySem.F.plainAttrs_dict PySem.F.slot_dict_get PySem.F.type_dict_get (thn (ho pins s σ H _ I h) fun u s1 ⟨x,H1,I1,rx,a,ex,d,q1⟩=>?_)
 subst ex
 obtain rfl:u=Value.ref a:=rx
 obtain⟨t1,t2,_⟩:=c1e I1 d
 refine⟨t1,t2,?_⟩
 rw[m.trees]
 refine Calls.callWith_builtin rfl (Calls.evalArgs_plain (Calls.spliced_cons (thn (he pins s1 σ H1 _ I1 q1) fun iv s2 ⟨y,H2,I2,ry,q2⟩ =>
  Calls.spliced_cons (thn (hf pins s2 σ H2 _ I2 q2) fun fv s3 ⟨z,H3,I3,rz,ov,g,q3⟩=>Calls.spliced_nil ?_))))
 exact i1j hu I3 g ry rz fun w' s4 I4 rw'=>⟨_,H3,I4,rw',q3⟩
end
end L2
namespace Att
open PySem PySem.W PySem.Calls PyProof.Rows
theorem k0h {P:Params}{h:Heap}:∀(ns:List Int) (vs:List Value),WellAll P h vs (ns.map WData.int)->IntsAre vs ns:=by
 intro ns
 induction ns with
 | nil =>
  intro vs w
  rw[List.map_nil]at w
  cases w
  exact .nil
 | cons n ns ih =>
  intro vs w
  rw[List.map_cons]at w
  cases w with
  | cons a b =>
   cases a
   exact .cons _ _ (ih _ b)
theorem v0x {l:OpenLaw}{n:Nat}(hn:l.most=some n){P:Params}{h:Heap}{args:List WData}{vals:List Value}
  (hpre:l.row.toRowW.claim.pre args=true) (hwl:WellAll P h vals args) :
  ∃a vs ns,vals=[Value.ref a]/\args=[WData.list (ns.map WData.int)]/\h.get? a=some {cls:=.type "list",data:=.seq vs.toArray}/\IntsAre vs ns/\ns.length<=n:=by
 have hsh:WShape.hasAll [] args [.list .int]=true:=(pre_splitW hpre).1
 have hc:l.pre.holds [] {args:=args}=true:=(pre_splitW hpre).2
 obtain⟨d,r,rfl,h1,h2⟩:=hasAllW_cons hsh
 obtain rfl:=hasAllW_nil h2
 obtain⟨xs,rfl,h3⟩:=hasW_list h1
 obtain⟨ns,rfl⟩:=items_int h3
 have hlen:ns.length<=n:=by
  unfold OpenLaw.pre at hc
  have h4:(WTm.not (.lt (.lit (.int (n:Int))) (.len (.arg 0)))).holds [] {args:=[.list (ns.map .int)]}=true:=by
   have h4:=(holds_andW hc).1
   rw[hn]at h4
   exact h4
  have h5:=condW_of h4 (w_not (w_lt w_lit (w_len_list (w_arg rfl))))
  rw[List.length_map]at h5
  refine Nat.le_of_not_lt fun q=>?_
  have q':(n:Int)<((ns.length:Nat):Int):=by omega
  first
   | (rw[decide_eq_true q']at h5;exact absurd h5 (by decide))
   | (simp at h5;omega)
 cases hwl with
 | cons w1 w2 =>
  cases w2
  cases w1 with
  | list ho hall=>exact⟨_,_,ns,rfl,rfl,ho,k0h ns _ hall,hlen⟩
theorem w0h (l:OpenLaw)(args:List WData):l.row.toRowW.claim.post args (.bool true) args=true :=
 postW_of (r:=l.row.toRowW) (X:=(true==true))
  (show WShape.has [] (.bool true) .bool=true by first | rfl | decide | simp[WShape.has,WShape.arms,WShape.armsAll])
  (show(WTm.eq .res (.lit (.bool true))).value [] {args:=args,res:=some (.bool true),after:=args}=some (.bool (true==true))from w_eq_bool (w_res rfl) w_lit) rfl
theorem attach_call {l:OpenLaw}{n:Nat}{q:Program}{loose:List Str}{XP:(Str->Option Value)->Heap->Prop}{YP:World->Heap->Prop}{d:DefRec}
  (hn:l.most=some n) (hdf:d.params.defaults=[])
  (call:∀(w:World) (s₀ s₁:Shared) (mg mb:Str->Option Value) (fa:Addr) (o:Obj) (pm cd doc:Value) (a:Addr) (vs:List Value) (ns:List Int),
   Ground q loose [] XP w s₀ mg mb s₁.heap->YP w s₁.heap ->
   s₁.heap.get? fa=some o->o.data = .func (docDef d.name d.params d.body d.scope pm cd doc)->s₁.heap.CodeRec cd d.name->mg d.name=some (.ref fa) ->
   s₁.heap.get? a=some {cls:=.type "list",data:=.seq vs.toArray}->IntsAre vs ns->ns.length<=n->s₁.gens = #[] ->
   codeAny (model l.prog w) callerA (.call (.ref fa) ⟨[.ref a],[]⟩) (fun r s'=>r = .ok (.ret (.bool true))/\OldK s₁.heap s'.heap/\s'.os=s₁.os/\AllBare s'.gens) s₁) :
  WalkO q loose XP YP l.row.toRowW d [] (fun f vs=>PySem.call f vs):=by
 intro w s₀ s₁ mg mb G Y fa o pm cd doc dV kV ho hd hcd hD hmg hg args vals as hpre hlay hrd hwl hlo
 obtain rfl:dV = .none:=Dflts.none hD hdf
 obtain rfl:kV = .none:=Dflts.noKw hD
 obtain⟨a,vs,ns,rfl,rfl,hobj,hints,hlen⟩:=v0x hn hpre hwl
 refine enter_call (codeAny_mono (call w s₀ s₁ mg mb fa o pm cd doc a vs ns G Y ho (fd_plain hd) hcd hmg hobj hints hlen hg) fun r s' hq=>?_)
 obtain⟨rfl,h2,h3,h4⟩:=hq
 exact⟨.inl ⟨.bool true,.bool true,[],rfl,fun _=>rfl,.bool true,w0h l _,fun _=>⟨List.Pairwise.nil,fun _ hm=>(nomatch hm)⟩⟩,h2,h3,h4⟩
end Att
namespace L2
open PySem PySem.Spec PyProof.Rows
theorem n0v:∀ {vs:List Value} {ns:List Int},IntsAre vs ns->Vals (ns.map V.int) vs
 | _,_,.nil=>.nil
 | _,_,.cons n t h=>.cons ⟨t,rfl⟩ (n0v h)
def Only (H:Hp):Prop:=∀b,H b=none ∨ ∃o xs,H b=some (.frz o (.lst xs))
theorem z0w {P:Program}{w:World}{K:PySem.W.Frag}{mg mb:Str->Option Value}{CX:CXT}{k:Nat}{fa a:Addr}{fd:FuncData}{x:Str}{sp:Sp}{s₁:Shared}{vs:List Value}{ns:List Int}
  (KX:K.In s₁.heap) (hns:s₁.heap.Ns mainGlobals mg) (hb:s₁.heap.Ns builtinsNs mb) (hbb:∀x:Str,x ≠ "__name__" -> mb x=bootBuiltins x) (hlim:s₁.heap.NoLimit) (hg:s₁.gens = #[])
  (ha:s₁.heap.get? a=some {cls:=.type "list",data:=.seq vs.toArray}) (hi:IntsAre vs ns) (hl:ns.length<=sizeLine) (hr:Room k callerA)
  (F:∀base:Heap,K.In base->base.Ns mainGlobals mg->FnOk P w K mg base CX k fa fd [x] sp) (hbind:∀(s:Shared) (u:Value),BindsTo s fd ⟨[u],[]⟩ [(x,u)])
  (hsp:∀H:Hp,Only H->SqL K H a (ns.map V.int)->sp [.ref a] H (fun v _=>v = .bl true) fun _ _ _=>False)
  (hCX:∀H e s',CX [] H s₁ (fun _ _ _=>False) e s'->False) :
  codeAny (model P w) callerA (.call (.ref fa) ⟨[.ref a],[]⟩) (fun r s'=>r = .ok (.ret (.bool true))/\OldK s₁.heap s'.heap/\s'.os=s₁.os/\AllBare s'.gens) s₁:=by
 have rv:=n0v hi
 have lenV:=hi.length
 have core:∀H:Hp,Only H->SqL K H a (ns.map V.int)->HOk P w H s₁.heap->(∀b,H b≠none->b=a)->(H a≠none->K.lookup a=none) ->
   codeAny (model P w) callerA (.call (.ref fa) ⟨[.ref a],[]⟩) (fun r s'=>r = .ok (.ret (.bool true))/\OldK s₁.heap s'.heap/\s'.os=s₁.os/\AllBare s'.gens) s₁:=by
  intro H hO hS hok hA hK
  have base_of:∀ {b:Addr} {o:Obj},s₁.heap.get? b=some o->H b=none->(hidT s₁.heap H).get? b=some o:=fun e n=>a1c e n
  have noA:∀ {b:Addr} {o:Obj} {es:Array DictEntry} {ep:Nat},s₁.heap.get? b=some o->o.data = .dict es ep->H b=none:=fun{b o es ep} e d=>by
   cases q:H b with
   | none=>rfl
   | some u =>
    have e':b=a:=hA b (by rw[q];simp)
    subst e'
    rw[ha]at e;cases e
    have d':Data.seq vs.toArray _=Data.dict es ep:=d
    cases d'
  have nsK:∀ {b:Addr} {m:Str->Option Value},s₁.heap.Ns b m->(hidT s₁.heap H).Ns b m:=fun{b m} ⟨o,es,ep,e,d,r⟩=>⟨o,es,ep,base_of e (noA e d),d,r⟩
  have hKb:K.In (hidT s₁.heap H):=fun b o e=>base_of (KX b o e) (by
   cases q:H b with
   | none=>rfl
   | some u =>
    have e':b=a:=hA b (by rw[q];simp)
    subst e'
    rw[hK (by rw[q];simp)]at e;cases e)
  have hM:Mod K mg (hidT s₁.heap H):=⟨hKb,nsK hns,⟨mb,nsK hb,hbb⟩,let ⟨mc,h1,h2⟩:=hlim;⟨mc,nsK h1,h2⟩⟩
  have e0:Env0 P w K mg (hidT s₁.heap H) callerA [] s₁ H:=⟨rfl,hM,fun b o e=>d1w e,Nat.le_of_eq (x0h _ _),trivial,fun b hb=>absurd (show b∈([]:List Addr)from hb) (by simp),hok,.of_eq hg⟩
  refine codeAny_mono ((F _ hKb (nsK hns)).run callerA [] s₁ H ⟨[.ref a],[]⟩ [.ref a] [.ref a] _ _ hr e0 (hbind s₁ (.ref a)) (.cons rfl .nil) (hsp H hO hS)) fun r s' h=>?_
  cases r with
  | error e=>exact(hCX H e s' h).elim
  | ok fl =>
   cases fl with
   | next=>exact False.elim h
   | brk=>exact False.elim h
   | cont=>exact False.elim h
   | ret u =>
    obtain⟨v,H',os,bare,un,hok',r',q⟩:=h
    have q':v = .bl true:=q
    subst q'
    obtain rfl:u=Value.bool true:=r'
    refine⟨rfl,OldK.of_keep fun b o e=>?_,os,bare⟩
    cases q:H b with
    | none=>exact un.keep b o e q (by intro z;exact absurd (show b∈([]:List Addr)from z) (by simp)) (by simp)
    | some u =>
     rcases hO b with z | ⟨ob,xs,z⟩
     ·rw[q]at z;cases z
     ·have z2:=un.frzs b ob _ z
      obtain⟨e1,_⟩:=hok b _ z
      obtain⟨e2,_⟩:=hok' b _ z2
      rw[e]at e1;cases e1
      exact e2
 cases hk:K.lookup a with
 | some o =>
  have e:=KX a o hk
  rw[ha]at e
  cases e
  refine core (fun _=>none) (fun _=>.inl rfl) (.inr ⟨_,vs.toArray,_,hk,rfl,rfl,rfl,by rw[List.size_toArray,lenV];exact hl,by simpa using rv⟩) (fun b u z=>by have z':(none:Option HO)=some u:=z;cases z') (fun b z=>absurd rfl z) fun z=>absurd rfl z
 | none =>
  refine core (fun b=>if b=a then some (.frz {cls:=.type "list",data:=.seq vs.toArray} (.lst (ns.map V.int)))else none) (fun b=>?_) (.inl (.inr ⟨{cls:=.type "list",data:=.seq vs.toArray},if_pos rfl⟩)) (fun b u z=>?_) (fun b z=>?_) fun _=>hk
  ·by_cases hb:b=a
   ·exact .inr ⟨_,_,if_pos hb⟩
   ·exact .inl (if_neg hb)
  ·by_cases hb:b=a
   ·have z':=(if_pos hb).symm.trans z
    cases z'
    subst hb
    exact⟨ha,by rw[List.length_map];exact hl,vs,_,rv,ha⟩
   ·have z':=(if_neg hb).symm.trans z
    cases z'
  ·by_cases hb:b=a
   ·exact hb
   ·exact absurd (if_neg hb) z
abbrev KOf {K:PySem.W.Frag}{h:Heap}(_:K.In h):PySem.W.Frag:=K
theorem c1u {l:PySem.W.OpenLaw}{n k:Nat}{q:Program}{loose:List Str}{XP:(Str->Option Value)->Heap->Prop}{YP:World->Heap->Prop}{d:DefRec}{K:Params->PySem.W.Frag}{CX:World->CXT}{sp:World->Sp}{x:Str}
  (hn:l.most=some n) (hn2:n<=sizeLine) (hdf:d.params.defaults=[]) (hr:Room k callerA)
  (hY:∀(w:World) (h:Heap),YP w h->(K w.params).In h)
  (F:∀(w:World) (mg:Str->Option Value) (fa:Addr) (h:Heap),(K w.params).In h->h.Ns mainGlobals mg->mg d.name=some (.ref fa) ->
   ∃fd:FuncData,(∀(s:Shared) (u:Value),BindsTo s fd ⟨[u],[]⟩ [(x,u)]) /\
    ∀base:Heap,(K w.params).In base->base.Ns mainGlobals mg->FnOk l.prog w (K w.params) mg base (CX w) k fa fd [x] (sp w))
  (hsp:∀(w:World) (H:Hp) (a:Addr) (ns:List Int),ns.length<=n->Only H->SqL (K w.params) H a (ns.map V.int)->sp w [.ref a] H (fun v _=>v = .bl true) fun _ _ _=>False)
  (hCX:∀(w:World) (H:Hp) (s:Shared) (e:Value) (s':Shared),CX w [] H s (fun _ _ _=>False) e s'->False) :
  PySem.W.WalkO q loose XP YP l.row.toRowW d [] (fun f vs=>PySem.call f vs):=by
 refine Att.attach_call hn hdf fun w s₀ s₁ mg mb fa o pm cd doc a vs ns G Y ho hd hcd hmg hobj hints hlen hg=>?_
 have KX:=hY w _ Y
 obtain⟨fd,hb,hF⟩:=F w mg fa _ KX G.T.g hmg
 exact z0w KX G.T.g G.T.b G.T.builtins G.T.nolimit hg hobj hints (Nat.le_trans hlen hn2) hr hF hb (fun H hO hS=>hsp w H a ns hlen hO hS) fun H e s'=>hCX w H s₁ e s'
theorem y0y {l:PySem.W.OpenLaw}{n k:Nat}{q:Program}{loose:List Str}{XP:(Str->Option Value)->Heap->Prop}{YP:World->Heap->Prop}{d:DefRec}{K:Params->PySem.W.Frag}{CX:CXT}{sp:PySem.W.Frag->Sp}{x:Str}
  (hn:l.most=some n) (hn2:n<=sizeLine) (hdf:d.params.defaults=[]) (hr:Room k callerA)
  (hY:∀(w:World) (h:Heap),YP w h->(K w.params).In h)
  (F:∀(w:World) (mg:Str->Option Value) (fa:Addr) (h:Heap),(K w.params).In h->h.Ns mainGlobals mg->mg d.name=some (.ref fa) ->
   ∃fd:FuncData,(∀(s:Shared) (u:Value),BindsTo s fd ⟨[u],[]⟩ [(x,u)]) /\
    ∀base:Heap,(K w.params).In base->base.Ns mainGlobals mg->FnOk l.prog w (K w.params) mg base CX k fa fd [x] (sp (K w.params)))
  (hsp:∀(K:PySem.W.Frag) (H:Hp) (a:Addr) (ns:List Int),ns.length<=n->Only H->SqL K H a (ns.map V.int)->sp K [.ref a] H (fun v _=>v = .bl true) fun _ _ _=>False)
  (hCX:∀(H:Hp) (s:Shared) (e:Value) (s':Shared),CX [] H s (fun _ _ _=>False) e s'->False) :
  PySem.W.WalkO q loose XP YP l.row.toRowW d [] (fun f vs=>PySem.call f vs) :=
 c1u (K:=K) (CX:=fun _=>CX) (sp:=fun w=>sp (K w.params)) hn hn2 hdf hr hY F (fun w H a ns h1 h2 h3=>hsp (K w.params) H a ns h1 h2 h3) fun _ H s e s'=>hCX H s e s'
def k0n (s:Stmt):Arguments:=match s with
 | .FunctionDef _ a _ _ _ _ _ _ _ _=>a
 | _=>{posonlyargs:=[],args:=[],vararg:=none,kwonlyargs:=[],kw_defaults:=[],kwarg:=none,defaults:=[]}
def e0x (s:Stmt):List Stmt:=match s with
 | .FunctionDef _ _ b _ _ _ _ _ _ _=>b
 | _=>[]
def a0i (s:Stmt):Scope:=match s with
 | .FunctionDef _ _ _ _ _ _ sc _ _ _=>sc
 | _=>{kind:=.function,names:=[],isGenerator:=false,isCoroutine:=false}
abbrev CX0:CXT:=fun _ _ _ _ _ _=>False
abbrev E0:XK:=fun _ _ _=>False
theorem j1e {X:Cx}:q0a CX0 X E0:=fun _ _ _ _ _ _ _ h=>h.elim
structure Fun (K:PySem.W.Frag)(x qual:Str)(st:Stmt)(f:Addr)(fd:FuncData):Prop where
 ex:∃(oc:Value) (od:Option Addr) (kV doc pm:Value) (an:Option Addr) (cdv ct:Value) (osl:Array (Option Value)),
  fd=PySem.W.fnOf x qual (k0n st) (e0x st) (a0i st) .none kV doc pm an cdv ct/\K.lookup f=some ⟨oc,od,.func fd,osl⟩/\PySem.W.codeIn K cdv qual=true
 kp:PySem.W.keepIn K (.ref f)=true
section
variable {P:Program}{w:World}{K:PySem.W.Frag}{mg:Str->Option Value}{base:Heap}
theorem Fun.ok {x qual:Str}{st:Stmt}{f:Addr}{fd:FuncData}{N ps:List Str}{k:Nat}{sp:Sp}(F:Fun K x qual st f fd)(S:b0l N ps (a0i st))(len:∀vs H Q E,sp vs H Q E->vs.length=ps.length)
  (hbody:∀(cdv:Value) (A:Around) (outer:List Env) (s:Shared) (H:Hp) (vs:List V) (Q:VK) (E:XK),Room k (A.deeper (envOfC qual (a0i st) s.heap.objs.size f cdv))->sp vs H Q E ->
   ∃t,PSs (cxOf CX0 P w K mg base N qual (a0i st) f cdv A outer s H E).nox (e0x st) t/\t {nx:=fun _ H'=>Q .non H',rt:=Q} (start N vs) H):FnOk P w K mg base CX0 (k+1) f fd ps sp:=by
 obtain⟨oc,od,kV,doc,pm,an,cdv,ct,osl,rfl,lk,hcd⟩:=F.ex
 refine i1e lk hcd S len fun A outer s H vs Q E hr hsp=>?_
 obtain⟨t,h,q⟩:=hbody cdv A outer s H vs Q E hr hsp
 exact⟨t,h.nox,q⟩
theorem i1d {x qual:Str}{st:Stmt}{f:Addr}{oc:Value}{od an:Option Addr}{osl:Array (Option Value)}{kV doc pm cdv ct:Value}(l:K.lookup f=some ⟨oc,od,.func (PySem.W.fnOf x qual (k0n st) (e0x st) (a0i st) .none kV doc pm an cdv ct),osl⟩)
  (c:PySem.W.codeIn K cdv qual=true) (k:PySem.W.keepIn K (.ref f)=true):Fun K x qual st f (PySem.W.fnOf x qual (k0n st) (e0x st) (a0i st) .none kV doc pm an cdv ct):=⟨⟨oc,od,kV,doc,pm,an,cdv,ct,osl,rfl,l,c⟩,k⟩
end
theorem f0d {A:Around}{k:Nat}(hr:Room k A):A.units+1<cLine:=Nat.lt_of_le_of_lt (Nat.add_le_add_left (by decide:1<=64) _) hr.units
theorem h0n {n:Nat}(h:n<=1000):n<sizeLine:=Nat.lt_of_le_of_lt h (by decide)
section
variable {X:Cx}
theorem pv (i:Nat){x:Str}{pos:Pos}(hN:X.N[i]? = some x:=by rfl)(hv:Vis X.env.scope x:=by first | exact Or.inl rfl | exact Or.inr (Or.inl rfl) | exact Or.inr (Or.inr rfl))(hd:(x==("__debug__" : Str))=false:=by decide)
  (hcd:(x==("__classdict__" : Str))=false:=by decide):PE X (.Name x pos) (tVar i):=g1x hN hv hd hcd
end
theorem ite2 {c A B:Prop} [Decidable c](h1:c->A)(h2:¬c->B):if c then A else B:=by
 by_cases h:c
 ·rw[if_pos h]
  exact h1 h
 ·rw[if_neg h]
  exact h2 h
def Same (H H':Hp):Prop:=∀b o,H b=some o->H' b=some o
theorem Same.refl (H:Hp):Same H H:=fun _ _ h=>h
theorem Same.trans {H H1 H2:Hp}(a:Same H H1)(b:Same H1 H2):Same H H2:=fun c o h=>b c o (a c o h)
theorem Same.free {H H':Hp}(e:Same H H'){l:Addr}(h:H' l=Option.none):H l=Option.none:=by
 cases q:H l with
 | none=>rfl
 | some o =>
  rw[e l o q]at h
  cases h
theorem Same.seq {K:PySem.W.Frag}{H H':Hp}{a:Addr}{xs:List V}(e:Same H H')(h:SqL K H a xs):SqL K H' a xs:=by
 rcases h with(h | ⟨o,h⟩) | h
 ·exact .inl (.inl (e _ _ h))
 ·exact .inl (.inr ⟨o,e _ _ h⟩)
 ·exact .inr h
def g0l (cells:List (Str×Addr)):List (Str×NameKind)->List (Str×Addr)->List (Str×Addr)
 | [],cs=>cs
 | (n,k)::r,cs=>g0l cells r (if k == .free then(match cells.lookup n with | some c=>(n,c)::cs | none=>cs)else cs)
def d0k (scope:Scope)(env:Env):List (Str×Addr):=g0l env.cells scope.names []
theorem u0s (env:Env):∀(names:List (Str×NameKind)) (cs:List (Str×Addr)),(∀x∈names,x.2 = .free->∃c,env.cells.lookup x.1=some c) ->
  (forIn names cs fun(x:Str×NameKind) (r:List (Str×Addr))=>(if(x.2 == .free)=true then(do let a <- cellOf env x.1;pure (ForInStep.yield ((x.1,a)::r)))else pure (ForInStep.yield r):Sem (ForInStep (List (Str×Addr)))))=pure (g0l env.cells names cs):=by
 intro names
 induction names with
 | nil=>intro cs _;rfl
 | cons x r ih =>
  intro cs h
  obtain⟨n,k⟩:=x
  rw[List.forIn_cons]
  have hr:∀y∈r,y.2 = .free->∃c,env.cells.lookup y.1=some c:=fun y hy=>h y (List.mem_cons_of_mem _ hy)
  unfold g0l
  by_cases hk:k = .free
  ·subst hk
   obtain⟨c,hc⟩:=h (n,.free) List.mem_cons_self rfl
   have e:cellOf env n=pure c:=by unfold cellOf;rw[hc]
   rw[if_pos (show(NameKind.free==NameKind.free)=true from rfl),if_pos (show(NameKind.free==NameKind.free)=true from rfl),hc]
   show(cellOf env n>>=fun a=>_)>>=_=_
   rw[e]
   exact ih _ hr
  ·have hb:(k==NameKind.free)=false:=by simpa using hk
   rw[if_neg (show ¬(k==NameKind.free)=true by rw[hb];exact Bool.false_ne_true),if_neg (show ¬(k==NameKind.free)=true by rw[hb];exact Bool.false_ne_true)]
   exact ih _ hr
theorem d0h {scope:Scope}{env:Env}(h:∀x∈scope.names,x.2 = .free->∃c,env.cells.lookup x.1=some c):closureFor scope env=pure (d0k scope env):=by
 have run:=u0s env scope.names [] h
 unfold closureFor d0k
 have e:(forIn scope.names ([]:List (Str×Addr)) fun(x:Str×NameKind) (r:List (Str×Addr))=>(match x with
   | (name,kind)=>if(kind==NameKind.free)=true then(do let a <- cellOf env name;pure (ForInStep.yield ((name,a)::r)))else pure (ForInStep.yield r):Sem (ForInStep (List (Str×Addr)))))=pure (g0l env.cells scope.names []):=run
 show(forIn scope.names ([]:List (Str×Addr)) _>>=fun cs=>pure cs)=_
 exact(congrArg (fun m:Sem (List (Str×Addr))=>m>>=fun cs=>pure cs) e)
theorem l0y (cells:List (Str×Addr)):∀(names:List (Str×NameKind)) (cs:List (Str×Addr)),(∀p∈cs,cells.lookup p.1=some p.2)->∀p∈g0l cells names cs,cells.lookup p.1=some p.2
 | [],cs,h=>h
 | (n,k)::r,cs,h=>by
  unfold g0l
  refine l0y cells r _ fun p hp=>?_
  by_cases hk:(k==NameKind.free)=true
  ·rw[if_pos hk]at hp
   cases e:cells.lookup n with
   | none=>rw[e]at hp;exact h p hp
   | some c =>
    rw[e]at hp
    rcases List.mem_cons.mp hp with rfl | hp
    ·exact e
    ·exact h p hp
  ·rw[if_neg hk]at hp
   exact h p hp
theorem d0n {scope:Scope}{env:Env}{x:Str}{c:Addr}(h:(d0k scope env).lookup x=some c):env.cells.lookup x=some c :=
 l0y env.cells scope.names [] (fun _ z=>nomatch z) (x,c) (PySem.mem_of_lookup h)
theorem e0i {cs:List (Str×Addr)}{x:Str}{c:Addr}(h:(x,c)∈cs):∃d,cs.lookup x=some d:=by
 induction cs with
 | nil=>cases h
 | cons p r ih =>
  obtain⟨y,d⟩:=p
  by_cases e:x==y
  ·exact⟨d,by rw[List.lookup_cons,e]⟩
  ·rcases List.mem_cons.mp h with z | z
   ·cases z;simp at e
   ·obtain⟨d',q⟩:=ih z
    exact⟨d',by simp only[Bool.not_eq_true]at e;rw[List.lookup_cons,e];exact q⟩
theorem k0q (cells:List (Str×Addr)):∀(names:List (Str×NameKind)) (cs:List (Str×Addr)) (p:Str×Addr),p∈cs->p∈g0l cells names cs
 | [],_,_,h=>h
 | (n,k)::r,cs,p,h=>by
  unfold g0l
  refine k0q cells r _ p ?_
  split
  ·split
   ·exact List.mem_cons_of_mem _ h
   ·exact h
  ·exact h
theorem l0z (cells:List (Str×Addr)){x:Str}{c:Addr}(hc:cells.lookup x=some c):∀(names:List (Str×NameKind)) (cs:List (Str×Addr)),(x,NameKind.free)∈names->(x,c)∈g0l cells names cs
 | [],_,h=>nomatch h
 | (n,k)::r,cs,h=>by
  unfold g0l
  rcases List.mem_cons.mp h with z | z
  ·cases z
   refine k0q cells r _ _ ?_
   rw[if_pos (show(NameKind.free==NameKind.free)=true from rfl),hc]
   exact List.mem_cons_self
  ·exact l0z cells hc r _ z
theorem i0k {scope:Scope}{env:Env}{x:Str}{c:Addr}(h:(x,NameKind.free)∈scope.names)(hc:env.cells.lookup x=some c):(d0k scope env).lookup x=some c:=by
 obtain⟨d,e⟩:=e0i (l0z env.cells hc scope.names [] h)
 have e':(d0k scope env).lookup x=some d:=e
 rw[e',<- d0n e',hc]
def blk (X:Cx)(scope:Scope)(N:List Str)(s:Shared)(H:Hp)(C:Addr)(fp:List Addr):Cx where
 prog:=X.prog
 w:=X.w
 K:=X.K
 mg:=X.mg
 base:=X.base
 A:=X.A
 N:=N
 s₀:=s
 H₀:=H
 env:=compEnvC scope (d0k scope X.env) C X.env
 outer:=X.stack
 stack:=X.stack
 ex:=fp
 fn:=fun _=>false
 calm:=X.calm
 pn:=[]
 xe:=fun _ _=>False
def capt (σ:St)(js:List Nat):St:=js.map fun j=>(σ[j]?).getD none
def capN (N:List Str)(js:List Nat):List Str:=js.map fun j=>(N[j]?).getD ""
def bst (n:Nat)(σ:St)(js:List Nat):St:=List.replicate n none++capt σ js
theorem h0k {n:Nat}{σ:St}{js:List Nat}:(bst n σ js).length=n+js.length:=by unfold bst capt;simp
section
variable {P:Program}{w:World}{A:Around}{R:Result->Shared->Prop}{s:Shared}
theorem k0p {elt tg iter:Expr}{ifs:List Expr}{scope:Scope}{pos:Pos}{it acc:Value}{env:Env}(J:Nat->Shared->Prop)
  (turn:∀n s,J n s->wpAny (model P w) A (pyNext it) (fun r s1=>match r with
   | none=>R (.ok .next) s1
   | some v=>wpAny (model P w) A (letOwnedTupleGo tg it v) (fun _ s2=>wpAny (model P w) A (assign tg env v) (fun _ s3 =>
     wpAny (model P w) A (forIn ifs true fun c r=>if r=true then do let ok <- isTrue c env (eval c env);pure (ForInStep.yield ok)else pure (ForInStep.yield r)) (fun ok s4 =>
      if ok=true then wpAny (model P w) A (eval elt env) (fun x s5=>wpAny (model P w) A (call (.builtin "list.append") [acc,x]) (fun _ s6=>∃m,m<n/\J m s6) (fun _ _=>False) s5) (fun _ _=>False) s4
      else ∃m,m<n/\J m s4) (fun _ _=>False) s3) (fun _ _=>False) s2) (fun _ _=>False) s1) (fun _ _=>False) s)
  (n:Nat) (h:J n s):codeAny (model P w) A (.compLoop (.ListComp elt [⟨tg,iter,ifs,0⟩] scope pos) 0 it acc env) R s:=by
 have no:∀ {α:Type} {t:Sem α} {Q Q':α->Shared->Prop} {E:Value->Shared->Prop} {s:Shared},wpAny (model P w) A t Q (fun _ _=>False) s->(∀a s,Q a s->Q' a s)->wpAny (model P w) A t Q' E s :=
  fun h hq=>wpAny_mono h hq fun _ _ f=>f.elim
 refine codeAny_loop rfl J (fun n s hJ=>?_) n h
 show wpAny _ A ((compTurn (.ListComp elt [⟨tg,iter,ifs,0⟩] scope pos) 0 it acc env).onRaise (fun x=>do noteFrame x env;theTreesLotGoes x)) _ _ s
 refine wpAny_noted ?_
 rw[compTurn_list]
 refine wpAny_bind (wpAny_standAt (wpAny_bind (no (turn n s hJ) fun r s1 h1=>?_)))
 cases r with
 | none=>exact wpAny_pure h1
 | some v =>
  refine wpAny_bind (no h1 fun _ s2 h2=>wpAny_bind (no h2 fun _ s3 h3=>wpAny_bind (no h3 fun ok s4 h4=>?_)))
  cases ok with
  | false=>exact wpAny_pure ⟨rfl,h4⟩
  | true=>exact wpAny_bind (wpAny_bind (no h4 fun x s5 h5=>wpAny_bind (no h5 fun _ s6 h6=>wpAny_pure (wpAny_pure ⟨rfl,h6⟩))))
end
def PTs (X:Cx)(ifs:List Expr)(t:TT):Prop :=
 ∀(pins:List (Addr×Obj)) (s:Shared) (σ:St) (H:Hp) (Q:Bool->Hp->Prop),Inv X pins σ H s->t σ H Q ->
  wpAny (model X.prog X.w) X.A (forIn ifs true fun c r=>if r=true then do let ok <- isTrue c X.env (eval c X.env);pure (ForInStep.yield ok)else pure (ForInStep.yield r)) (TP X pins σ Q) X.xe s
def tAll:TT:=fun _ H Q=>Q true H
theorem c0r {X:Cx}:PTs X [] tAll:=fun _ _ _ H _ I h=>wpAny_tests_nil ⟨H,I,h⟩
theorem j0n {X:Cx}{c:Expr}{t:TT}(h:PT X c t):PTs X [c] t:=fun pins s σ H Q I hq=>wpAny_tests_one (h pins s σ H Q I hq)
def f1h (J:It)(n:Nat)(js:List Nat)(g:TG)(tc:TT)(te:TE)(Q:VK)(σ:St)(H1:Hp):Prop:=∃W:Nat->Nat->List V->Hp->Prop,(∃m,W 0 m [] H1)/\∀i m ys H,W i m ys H ->
 (J.stop i H/\ys.length<=sizeLine/\∀l,H l=none->Q (.ref l) (upd H l (.lst ys))) ∨
 (J.go i H/\ys.length<sizeLine/\∃N:List V->Hp->Prop,(∀zs H',N zs H'->∃m',m'<m/\W (i+1) m' zs H')/\∀x H',J.yld i H x H'->g x (bst n σ js) H' fun σ2 H2=>σ2.drop n=capt σ js/\tc σ2 H2 fun b H3 =>
  if b=true then te σ2 H3 fun v H4=>N (ys++[v]) H4 else N ys H3)
def q0g (n:Nat)(js:List Nat)(wi:TI)(g:TG)(tc:TT)(te:TE):TE:=fun σ H Q=>wi σ H fun J H1=>f1h J n js g tc te Q σ H1
section
variable {X:Cx}
structure Blk (X:Cx)(scope:Scope)(own:List Str)(js:List Nat):Prop where
 kind:scope.kind = .function
 nocell:∀y∈scope.names,y.2 ≠ .cell
 names:∀y∈scope.names,y.2 = .local->scope.names.lookup y.1=some .local
 free:∀y∈scope.names,y.2 = .free->X.env.kindOf y.1=some .cell∨X.env.kindOf y.1=some .free
 uniq:∀x,(x,NameKind.free)∈scope.names->scope.names.lookup x=some .free
 nd:(own++capN X.N js).Nodup
 cap:∀j∈js,j<X.N.length/\((X.N[j]?).getD "",NameKind.free)∈scope.names
def blkB (sc:Scope)(N:List Str)(scope:Scope)(own:List Str)(js:List Nat):Bool :=
 scope.kind == .function&&scope.names.all (fun y=>y.2 != .cell)&&scope.names.all (fun y=>y.2 != .local||scope.names.lookup y.1==some .local) &&
 scope.names.all (fun y=>y.2 != .free||sc.names.lookup y.1==some .cell||sc.names.lookup y.1==some .free)&&scope.names.all (fun y=>y.2 != .free||scope.names.lookup y.1==some .free) &&
 decide (own++capN N js).Nodup&&js.all (fun j=>decide (j<N.length)&&scope.names.any fun y=>y.1==(N[j]?).getD "" && y.2 == .free)
theorem Blk.of {scope:Scope}{own:List Str}{js:List Nat}(sc:Scope)(N:List Str)(h:blkB sc N scope own js=true:=by decide +kernel)(e1:X.env.scope=sc:=by rfl)(e2:X.N=N:=by rfl):Blk X scope own js:=by
 subst e1 e2
 unfold blkB at h
 simp only[Bool.and_eq_true,List.all_eq_true,decide_eq_true_eq,beq_iff_eq]at h
 obtain⟨⟨⟨⟨⟨⟨h1,h2⟩,h3⟩,h4⟩,h5⟩,h6⟩,h7⟩:=h
 refine⟨h1,fun y hy=>by simpa using h2 y hy,fun y hy e=>?_,fun y hy e=>?_,fun x hx=>?_,h6,fun j hj=>?_⟩
 ·have:=h3 y hy
  simpa [e] using this
 ·have:=h4 y hy
  simp only[e,bne_self_eq_false,Bool.false_or,Bool.or_eq_true,beq_iff_eq]at this
  exact this
 ·have:=h5 _ hx
  simpa using this
 ·obtain⟨a,b⟩:=h7 j hj
  refine⟨a,?_⟩
  obtain⟨y,hy,e⟩:=List.any_eq_true.mp b
  simp only[Bool.and_eq_true,beq_iff_eq]at e
  obtain⟨e1,e2⟩:=e
  rw[<- e1,<- e2]
  exact hy
theorem b0x {env:Env}:∀ {names:List (Str×NameKind)} {x:Str} {k:NameKind},
  (names.map fun(n,k)=>if(k==NameKind.free&&env.scope.kind == .function&&env.kindOf n==some .cell)then(n,NameKind.cell)else(n,k)).lookup x=some k->names.lookup x=some k∨(k = .cell/\names.lookup x=some .free)
 | [],_,_,h=>by simp at h
 | (n,q)::r,x,k,h=>by
  have ih:=@b0x env r x k
  cases hx:x==n with
  | true =>
   by_cases hc:(q==NameKind.free&&env.scope.kind == .function&&env.kindOf n==some .cell)=true
   ·simp only[List.map_cons,if_pos hc,List.lookup_cons,hx]at h
    cases h
    simp only[Bool.and_eq_true,beq_iff_eq]at hc
    obtain⟨⟨hq,_⟩,_⟩:=hc
    subst hq
    exact .inr ⟨rfl,by rw[List.lookup_cons,hx]⟩
   ·simp only[List.map_cons,if_neg hc,List.lookup_cons,hx]at h
    cases h
    exact .inl (by rw[List.lookup_cons,hx])
  | false =>
   have h':(r.map fun(n,k)=>if(k==NameKind.free&&env.scope.kind == .function&&env.kindOf n==some .cell)then(n,NameKind.cell)else(n,k)).lookup x=some k:=by
    by_cases hc:(q==NameKind.free&&env.scope.kind == .function&&env.kindOf n==some .cell)=true
    ·simp only[List.map_cons,if_pos hc,List.lookup_cons,hx]at h
     exact h
    ·simp only[List.map_cons,if_neg hc,List.lookup_cons,hx]at h
     exact h
   rcases ih h' with z | ⟨z,z'⟩
   ·exact .inl (by rw[List.lookup_cons,hx];exact z)
   ·exact .inr ⟨z,by rw[List.lookup_cons,hx];exact z'⟩
theorem y0l {scope:Scope}{own:List Str}{js:List Nat}{pins:List (Addr×Obj)}{σ:St}{H:Hp}{s:Shared}{fp:List Addr}{C:Addr}{h1:Heap}{tk:Nat}(B:Blk X scope own js)(I:Inv X pins σ H s)
  (hfp:∀b∈fp,FpOk X pins H b) (hfo:∀b∈fp,∃o,s.heap.get? b=some o) (hC:s.heap.objs.size<=C) (hns:h1.Ns C fun _=>none) (hk:∀b o,s.heap.get? b=some o->h1.get? b=some o) :
  Inv (blk X scope (own++capN X.N js) s H C fp) [] (bst own.length σ js) H {s with heap:=h1,toks:=tk}:=by
 have kindC:∀x,(blk X scope (own++capN X.N js) s H C fp).env.kindOf x=some .cell∨(blk X scope (own++capN X.N js) s H C fp).env.kindOf x=some .free->(x,NameKind.free)∈scope.names:=fun x hx=>by
  have hx':(relabel scope X.env).names.lookup x=some .cell∨(relabel scope X.env).names.lookup x=some .free:=hx
  rcases hx' with z | z
  ·rcases b0x z with q | ⟨_,q⟩
   ·exact absurd rfl (B.nocell _ (PySem.mem_of_lookup q))
   ·exact PySem.mem_of_lookup q
  ·rcases b0x z with q | ⟨_,q⟩
   ·exact PySem.mem_of_lookup q
   ·exact PySem.mem_of_lookup q
 have has:∀x,(x,NameKind.free)∈scope.names->∃c,X.env.cells.lookup x=some c:=fun x hx=>I.ok.has x (B.free (x,.free) hx rfl)
 have old:∀ {x c},(d0k scope X.env).lookup x=some c->X.env.cells.lookup x=some c:=fun e=>d0n e
 have cellLt:∀ {x c},X.env.cells.lookup x=some c->c<s.heap.objs.size:=fun{x c} e=>by
  obtain⟨v,o,ho,_⟩:=I.cell x c e
  exact Heap.lt_size ho
 have fpLt:∀b∈fp,b<s.heap.objs.size:=fun b hb=>let ⟨_,e⟩:=hfo b hb;Heap.lt_size e
 have fsOk:∀b∈frs X.stack,b∈X.env.locals::X.fs:=I.stkSub
 refine⟨⟨I.ok.mod,?_,I.ok.glob,I.ok.blt,hC,fun x y c e1 e2=>I.ok.inj x y c (old e1) (old e2),fun x hx=>?_,fun x c z _=>absurd z Bool.false_ne_true,I.ok.hd,I.ok.frames,.inl rfl,fun b hb=>⟨?_,fun x c e=>?_⟩,I.bs,Nat.le_trans I.ok.bsz I.sz,
   fun b o e hb=>?_,fun b hb hf=>?_,I.stack,I.stkFree⟩,rfl,I.bare,Un.kept hk,⟨_,hns,fun i x v e1 e2 e3=>?_⟩,fun x c e=>?_,?_,fun x c e=>I.freeC x c (old e),fun p hp=>absurd hp (by show p∉[]++[];simp),I.hok.kept hk,?_⟩
 ·show(relabel scope X.env).kind = .function
  exact B.kind
 ·obtain⟨c,e⟩:=has x (kindC x hx)
  exact⟨c,i0k (kindC x hx) e⟩
 ·exact Nat.ne_of_lt (Nat.lt_of_lt_of_le (fpLt b hb) hC)
 ·exact(hfp b hb).2.2.2.2.1 x c (old e)
 ·have e1:=I.bs b o e
  obtain⟨f0,f1,f2,f3,f4,f5⟩:=hfp b hb
  rcases f3 with z | z
  ·exact I.ok.noex b o e z
  ·exact absurd (Nat.lt_of_lt_of_le (Heap.lt_size (I.ok.bs b o e).1) z) (Nat.lt_irrefl _)
 ·obtain⟨f0,f1,f2,f3,f4,f5⟩:=hfp b hb
  rcases List.mem_cons.mp (fsOk b hf)with z | z
  ·exact f1 z
  ·exact f2 z
 ·-- a captured name's value
  have hi:own.length<=i:=by
   rcases Nat.lt_or_ge i own.length with z | z
   ·exfalso
    have e2':(List.replicate own.length (none:Option V)++capt σ js)[i]? = some (some v):=e2
    rw[List.getElem?_append_left (by simpa using z),List.getElem?_replicate]at e2'
    split at e2' <;> cases e2'
   ·exact z
  have e1':(own++capN X.N js)[i]? = some x:=e1
  have e2':(List.replicate own.length (none:Option V)++capt σ js)[i]? = some (some v):=e2
  rw[List.getElem?_append_right hi]at e1'
  rw[List.getElem?_append_right (by simpa using hi),List.length_replicate]at e2'
  unfold capN at e1'
  unfold capt at e2'
  rw[List.getElem?_map]at e1' e2'
  cases ej:js[i - own.length]? with
  | none=>rw[ej]at e1';cases e1'
  | some j =>
   rw[ej]at e1' e2'
   have e1'':(X.N[j]?).getD "" = x:=Option.some.inj e1'
   have e2'':(σ[j]?).getD none=some v:=Option.some.inj e2'
   obtain⟨hj,hm⟩:=B.cap j (List.mem_of_getElem? ej)
   have eN:X.N[j]? = some x:=by
    rw[List.getElem?_eq_getElem hj]at e1'' ⊢
    exact congrArg some e1''
   have eS:σ[j]? = some (some v):=by
    cases q:σ[j]? with
    | none=>rw[q]at e2'';cases e2''
    | some u=>rw[q]at e2'';exact congrArg some e2''
   rw[e1'']at hm
   obtain⟨m,_,hl⟩:=I.loc
   have hv:Vis X.env.scope x:=by
    rcases B.free (x,.free) hm rfl with z | z
    ·exact .inr (.inl z)
    ·exact .inr (.inr z)
   obtain⟨u,r,l⟩:=hl j x v eN eS hv
   obtain⟨c,hc⟩:=has x hm
   refine⟨u,r,.inr ⟨?_,c,i0k hm hc,?_⟩⟩
   ·rcases e3 with z | z | z
    ·exfalso
     have z':(relabel scope X.env).names.lookup x=some .local:=z
     rcases b0x z' with q | ⟨q,_⟩
     ·rw[B.uniq x hm]at q
      cases q
     ·cases q
    ·exact .inl z
    ·exact .inr z
   ·rcases l with⟨k1,_⟩ | ⟨k2,c2,e2,ic⟩
    ·rcases B.free (x,.free) hm rfl with t | t <;> (rw[k1]at t;cases t)
    ·rw[hc]at e2;cases e2
     obtain⟨o,ho,hd⟩:=ic
     exact⟨o,hk c o ho,hd⟩
 ·obtain⟨v,o,ho,hd⟩:=I.cell x c (old e)
  exact⟨v,o,hk c o ho,hd⟩
 ·exact I.hok.fresh hC
 ·rw[h0k]
  show _=(own++capN X.N js).length
  unfold capN
  simp
end
section
variable {X:Cx}
theorem Inv.young {pins:List (Addr×Obj)}{σ:St}{H:Hp}{s:Shared}{h':Heap}{c:Addr}(I:Inv X pins σ H s)(hs:Heap.SameBut c s.heap h')(hn:H c=none)(h1:X.s₀.heap.objs.size<=c)(hL:c≠X.env.locals)
  (h2:∀x d,X.env.cells.lookup x=some d->d≠c) (h3:∀p∈X.pn++pins,p.1≠c):Inv X pins σ H {s with heap:=h'} :=
 I.turned (t':=s.toks) (fun b o hb e=>(hs.2 b hb).trans e) hn hL (.inr h1) h2 h3
theorem Inv.track {pins:List (Addr×Obj)}{σ:St}{H:Hp}{s:Shared}{D:Addr}{ys:List V}{its:List Value}{n:Nat}(I:Inv X pins σ H s)(hn:H D=none)(h1:X.s₀.heap.objs.size<=D)(hL:D≠X.env.locals)
  (h2:∀x d,X.env.cells.lookup x=some d->d≠D) (h3:∀p∈X.pn++pins,p.1≠D) (hz:ys.length<=sizeLine) (r:Vals ys its) (e:s.heap.get? D=some {cls:=.type "list",data:=.seq its.toArray n}) :
  Inv X pins σ (upd H D (.lst ys)) s:=by
 have ne:∀ {b u},H b=some u->b≠D:=fun{b u} q=>b0b q hn
 refine⟨I.ok,I.os,I.bare,⟨I.base.keep,I.base.slot,fun b o q z hx=>?_,I.base.there,fun b xs q=>?_,fun b o u q=>?_,fun b ps q=>?_⟩,I.loc,I.cell,?_,fun x c q=>?_,fun p hp=>?_,fun b o q=>?_,I.len⟩
 ·rw[a0o (Nat.ne_of_lt (Nat.lt_of_lt_of_le (Heap.lt_size q) h1))]
  exact I.base.free b o q z hx
 ·have q':=I.base.tups b xs q
  rw[a0o (ne q')];exact q'
 ·have q':=I.base.frzs b o u q
  rw[a0o (ne q')];exact q'
 ·obtain⟨more,q'⟩:=I.base.tbls b ps q
  exact⟨more,by rw[a0o (ne q')];exact q'⟩
 ·rw[a0o (Ne.symm hL)];exact I.free
 ·rw[a0o (h2 x c q)];exact I.freeC x c q
 ·obtain⟨a1,a2,a3⟩:=I.pin p hp
  exact⟨a1,by rw[a0o (h3 p hp)];exact a2,a3⟩
 ·by_cases hb:b=D
  ·subst hb
   rw[a0y]at q
   cases q
   exact⟨hz,its,n,r,e⟩
  ·rw[a0o hb]at q
   refine(I.hok b o q).stay (fun _ _ _ z=>z) (fun c z=>?_) fun c xs z=>?_
   ·rw[a0o (ne z)];exact z
   ·rw[a0o (ne z)];exact z
def y0w (X:Cx)(pins:List (Addr×Obj))(σ:St)(Q:VK)(C:Addr)(acc:Value)(s':Shared):Prop :=
 ∃(D:Addr) (H:Hp) (m:Str->Option Value),acc = .ref D/\s'.heap.Ns C m/\Inv X pins σ H s'/\H C=none/\X.s₀.heap.objs.size<=C/\C≠X.env.locals/\(∀x d,X.env.cells.lookup x=some d->d≠C)/\(∀p∈X.pn++pins,p.1≠C)/\Q (.ref D) H
theorem l0x {elt tg iter:Expr}{ifs:List Expr}{scope:Scope}{pos:Pos}{own:List Str}{js:List Nat}{g:TG}{tc:TT}{te:TE}{Q:VK}{pins:List (Addr×Obj)}{σ:St}{s2:Shared}{itv:Value}{E:Value->Shared->Prop}
  {RR:Value->Addr->Result->Shared->Prop} (hc:X.calm=true) (B:Blk X scope own js) (hg:∀s H C fp,(own++capN X.N js).Nodup->PG (blk X scope (own++capN X.N js) s H C fp) tg g) (ht:∀s H C fp,PTs (blk X scope (own++capN X.N js) s H C fp) ifs tc)
  (he:∀s H C fp,PE (blk X scope (own++capN X.N js) s H C fp) elt te)
  (h:PIE X pins σ tg (fun J H1=>f1h J own.length js g tc te Q σ H1) itv s2)
  (hR:∀C acc s',y0w X pins σ Q C acc s'->RR acc C (.ok .next) s') :
  wpAny (model X.prog X.w) X.A (newList []) (fun acc s3=>wpAny (model X.prog X.w) X.A (newFunctionEnv scope X.env.globals (d0k scope X.env) [] X.env.qual none .none (some X.env)) (fun cenv s4 =>
   codeAny (model X.prog X.w) X.A (.compStart (.ListComp elt [⟨tg,iter,ifs,0⟩] scope pos) 0 itv acc {cenv with scope:=relabel scope X.env}) (RR acc cenv.locals) s4) E s3) E s2:=by
 obtain⟨it,fp,tn,J,H2,rfl,I2,T,st2,f2,W,⟨m0,w0⟩,turn⟩:=h
 refine wpAny_newObj_type (wpAny_newFunctionEnv B.nocell (by intro y hy;simp at hy) (fun h1 hns1 hsb1=>?_) B.kind)
 generalize hPu:s2.heap.push {cls:=.type "list",dict:=none,data:=.seq ([]:List Value).toArray}=Pu at hns1 hsb1 ⊢
 dsimp only at hns1 hsb1 ⊢
 have hDC:Pu.objs.size=s2.heap.objs.size+1:=by rw[<- hPu,Heap.size_push]
 generalize hD:s2.heap.objs.size=D at hDC ⊢
 have gD:Pu.get? D=some {cls:=.type "list",dict:=none,data:=.seq ([]:List Value).toArray}:=by
  rw[<- hPu,<- hD];exact Heap.get?_push_size _ rfl
 generalize hC:Pu.objs.size=C at hns1 hsb1 hDC ⊢
 have ltDC:D<C:=by rw[hDC];exact Nat.lt_succ_self D
 have neDC:D≠C:=Nat.ne_of_lt ltDC
 have keep1:∀b o,s2.heap.get? b=some o->h1.get? b=some o:=fun b o e=>by
  have hb:b<D:=by rw[<- hD];exact Heap.lt_size e
  have hb2:b≠C:=Nat.ne_of_lt (Nat.lt_trans hb ltDC)
  refine(hsb1.2 b hb2).trans (Heap.get?_push_of_some _ ?_)
  rw[<- hPu]
  exact Heap.get?_push_of_some _ e
 have gD1:h1.get? D=some {cls:=.type "list",dict:=none,data:=.seq ([]:List Value).toArray}:=(hsb1.2 D neDC).trans (Heap.get?_push_of_some _ gD)
 have szD:s2.heap.objs.size<=D:=Nat.le_of_eq hD
 have szC:s2.heap.objs.size<=C:=Nat.le_trans szD (Nat.le_of_lt ltDC)
 have old:∀ {b:Addr},b<s2.heap.objs.size->b≠D/\b≠C:=fun hb=>⟨Nat.ne_of_lt (Nat.lt_of_lt_of_le hb szD),Nat.ne_of_lt (Nat.lt_of_lt_of_le hb szC)⟩
 have fpo:∀b∈fp,∃o,s2.heap.get? b=some o:=fun b hb=>let ⟨o,e,_⟩:=T.obj 0 _ st2 b hb;⟨o,e⟩
 have fpD:∀b∈fp,b≠D/\b≠C:=fun b hb=>by
  obtain⟨o,e⟩:=fpo b hb
  exact old (Heap.lt_size e)
 have clD:∀x d,X.env.cells.lookup x=some d->d≠D/\d≠C:=fun x d e=>by
  obtain⟨v,o,ho,_⟩:=I2.cell x d e
  exact old (Heap.lt_size ho)
 have pinD:∀p∈X.pn++pins,p.1≠D/\p.1≠C:=fun p hp=>by
  exact old (Heap.lt_size (I2.pin p hp).1)
 have locD:D≠X.env.locals/\C≠X.env.locals:=by
  exact⟨(old I2.lt).1.symm,(old I2.lt).2.symm⟩
 let Y:=blk X scope (own++capN X.N js) s2 H2 C fp
 have IB:Inv Y [] (bst own.length σ js) H2 {s2 with heap:=h1,toks:=s2.toks+([]:List (Str×Value)).length}:=y0l B I2 f2 fpo szC hns1 keep1
 have fpB:∀ {H':Hp} {pl:List (Addr×Obj)},(∀b∈fp,H' b=none)->(∀p∈pl,p.1=D)->∀b∈fp,FpOk Y pl H' b:=fun{H' pl} hn hp b hb=>by
  obtain⟨f0,f1,f3,f4,f5,f6⟩:=f2 b hb
  refine⟨hn b hb,(fpD b hb).2,fun z=>?_,.inl hb,fun x c e=>f5 x c (d0n e),fun p q=>?_⟩
  ·rcases List.mem_cons.mp (I2.stkSub b z)with z | z
   ·exact f1 z
   ·exact f3 z
  ·have q':p∈pl:=by simpa [Y,blk] using q
   rw[hp p q']
   exact(fpD b hb).1.symm
 have clB:∀x d,Y.env.cells.lookup x=some d->d≠D:=fun x d e=>(clD x d (d0n e)).1
 have notFs:D∉Y.fs:=fun z=>by
  obtain⟨_,o,ho,_⟩:=IB.ok.funs.mem z
  exact(old (Heap.lt_size (show s2.heap.get? D=some o from ho))).1 rfl
 have loop:∀s3:Shared,s3={s2 with heap:=h1,toks:=s2.toks+([]:List (Str×Value)).length} ->
   codeAny (model X.prog X.w) X.A (.compLoop (.ListComp elt [⟨tg,iter,ifs,0⟩] scope pos) 0 (.ref it) (.ref D) (compEnvC scope (d0k scope X.env) C X.env)) (RR (.ref D) C) s3:=by
  rintro s3 rfl
  refine k0p (fun n s'=>∃(i:Nat) (ys:List V) (its:List Value) (k:Nat) (H':Hp),Inv Y [] (bst own.length σ js) H' s'/\tn i s'.heap/\(∀b∈fp,H' b=none)/\H' D=none/\Vals ys its /\
   s'.heap.get? D=some {cls:=.type "list",data:=.seq its.toArray k}/\W i n ys H') ?_ m0 ⟨0,[],[],0,H2,IB,T.keep 0 _ _ st2 (fun b hb o e=>keep1 b o e),fun b hb=>(f2 b hb).1,I2.hok.fresh szD,.nil,gD1,w0⟩
  rintro n s3 ⟨i,ys,its,k,H3,I3,st3,fr3,hD3,r3,g3,w3⟩
  have I3p:Inv Y [(D,{cls:=.type "list",data:=.seq its.toArray k})] (bst own.length σ js) H3 s3:=I3.pins_of fun p hp=>by
   have e:p=(D,{cls:=.type "list",data:=.seq its.toArray k}):=by simpa using hp
   subst e
   exact⟨g3,hD3,neDC,notFs,fun v z=>by cases z⟩
  have f3:∀b∈fp,FpOk Y [(D,{cls:=.type "list",data:=.seq its.toArray k})] H3 b:=fpB fr3 fun p hp=>by
   have e:p=(D,{cls:=.type "list",data:=.seq its.toArray k}):=by simpa using hp
   rw[e]
  rcases turn i n ys H3 w3 with⟨stop,hz,qn⟩ | ⟨go,hz,N,hN,step⟩
  ·refine thn (T.done Y rfl rfl rfl hc i _ s3 _ H3 (fun _ _=>False) I3p f3 st3 stop) fun r s4 ⟨hr,I4⟩=>?_
   subst hr
   refine hR C _ s4 ?_
   have g4:=(I4.pin (D,{cls:=.type "list",data:=.seq its.toArray k}) (by simp[Y,blk])).1
   obtain⟨m,hn4,_⟩:=id I4.loc
   have un:Un (frs X.stack) fp H2 H3 s2.heap s4.heap:=I4.base
   have I5:Inv X pins σ H3 s4:=I2.call' I4.os un I4.hok I4.bare fun b hb=>let ⟨_,b1,_,b3,b4,b5⟩:=f2 b hb;⟨b3,b1,b4,b5⟩
   have I6:=I5.track (ys:=ys) (its:=its) (n:=k) hD3 (Nat.le_trans I2.sz szD) locD.1 (fun x d e=>(clD x d e).1) (fun p hp=>(pinD p hp).1) hz r3 g4
   refine⟨D,_,m,rfl,hn4,I6,?_,Nat.le_trans I2.sz szC,locD.2,fun x d e=>(clD x d e).2,fun p hp=>(pinD p hp).2,qn D hD3⟩
   rw[a0o (Ne.symm neDC)]
   exact I4.free
  ·refine thn (T.item Y rfl rfl rfl hc i _ s3 _ H3 (fun _ _=>False) I3p f3 st3 go) fun r s4 ⟨u,hr,h4⟩=>?_
   subst hr
   refine thn h4 fun _ s5 ⟨x,H5,I5,r5,y5,st5,fr5⟩=>?_
   have f5:∀b∈fp,FpOk Y [(D,{cls:=.type "list",data:=.seq its.toArray k})] H5 b:=fun b hb=>⟨fr5 b hb,(f3 b hb).2⟩
   have I5':=I5.pinned f5 (T.obj _ _ st5)
   refine thn (hg s2 H2 C fp B.nd _ s5 _ H5 x u _ I5' r5 (step x H5 y5)) fun _ s6 ⟨σ6,H6,I6,d6,q6⟩=>?_
   refine thn (ht s2 H2 C fp _ s6 σ6 H6 _ I6 q6) fun ok s7 ⟨H7,I7,q7⟩=>?_
   have after:∀ {s8:Shared} {H8:Hp},Inv Y ([(D,{cls:=.type "list",data:=.seq its.toArray k})]++g0f fp s5.heap) σ6 H8 s8 ->
     s8.heap.get? D=some {cls:=.type "list",data:=.seq its.toArray k}/\H8 D=none/\tn (i+1) s8.heap/\(∀b∈fp,H8 b=none)/\Inv Y [] (bst own.length σ js) H8 s8:=fun{s8 H8} I8=>by
    have p8:=I8.pin (D,{cls:=.type "list",data:=.seq its.toArray k}) (by simp[Y,blk])
    refine⟨p8.1,p8.2.1,T.keep _ _ _ st5 fun b hb o e=>(I8.pin (b,o) (List.mem_append_right _ (List.mem_append_right _ (c0l hb e)))).1,fun b hb=>?_,?_⟩
    ·obtain⟨o,e,_⟩:=T.obj _ _ st5 b hb
     exact(I8.pin (b,o) (List.mem_append_right _ (List.mem_append_right _ (c0l hb e)))).2.1
    ·refine(I8.pins_of (pins':=[]) fun p hp=>absurd hp (by simp[Y,blk])).weak ?_ fun j v e=>?_
     ·rw[I8.len,h0k]
      show _=(own++capN X.N js).length
      unfold capN
      simp
     ·rcases Nat.lt_or_ge j own.length with z | z
      ·exfalso
       unfold bst at e
       rw[List.getElem?_append_left (by simpa using z),List.getElem?_replicate]at e
       split at e <;> cases e
      ·unfold bst at e
       rw[List.getElem?_append_right (by simpa using z),List.length_replicate,<- d6,List.getElem?_drop]at e
       rw[<- e]
       congr 1
       omega
   cases ok with
   | false =>
    rw[if_neg Bool.false_ne_true]at q7 ⊢
    obtain⟨m',hm,w7⟩:=hN _ _ q7
    obtain⟨a1,a2,a3,a4,a5⟩:=after I7
    exact⟨m',hm,i+1,ys,its,k,H7,a5,a3,a4,a2,r3,a1,w7⟩
   | true =>
    rw[if_pos rfl]at q7 ⊢
    refine thn (he s2 H2 C fp _ s7 σ6 H7 _ I7 q7) fun u8 s8 ⟨v8,H8,I8,r8,n8⟩=>?_
    obtain⟨m',hm,w8⟩:=hN _ _ n8
    obtain⟨a1,a2,a3,a4,a5⟩:=after I8
    have hsz:its.toArray.size<sizeLine:=by rw[List.size_toArray,<- r3.length];exact hz
    refine call_meets F.slot_list_append ⟨_,a1,rfl⟩ F.entry_list_append (F.args_list_append_2 _ _) (PySem.list_append D its.toArray k u8 (by omega)) ⟨a1,?_⟩
    have q9:=PySem.IsL.update a1 (fun xs=>xs.push u8)
    have sb:Heap.SameBut D s8.heap (s8.heap.update D (Obj.mapSeq fun xs=>xs.push u8)):=Heap.SameBut.update ..
    have I9:=a5.young sb a2 szD neDC clB (fun p hp=>absurd hp (by show p∉[]++[];simp))
    have fin:∃k',(s8.heap.update D (Obj.mapSeq fun xs=>xs.push u8)).get? D=some {cls:=.type "list",data:=.seq (its++[u8]).toArray k'}:=⟨_,by
     rw[show(its++[u8]).toArray=its.toArray.push u8 by simp]
     exact q9⟩
    obtain⟨k',fin⟩:=fin
    exact⟨m',hm,i+1,ys++[v8],its++[u8],k',H8,I9,T.keep _ _ _ a3 (fun b hb o e=>(sb.2 b (fpD b hb).1).trans e),a4,a2,r3.append (.cons r8 .nil),fin,w8⟩
 exact codeAny_compStart_list (loop _ rfl) (T.self _ 0 _ _ _ (T.keep 0 _ _ st2 fun b hb o e=>keep1 b o e) (loop _ rfl))
theorem e0c {elt tg iter:Expr}{ifs:List Expr}{scope:Scope}{pos:Pos}(own:List Str)(js:List Nat){wi:TI}{g:TG}{tc:TT}{te:TE}(hc:X.calm=true)(B:Blk X scope own js)(hi:PI X tg iter wi)
  (hg:∀s H C fp,(own++capN X.N js).Nodup->PG (blk X scope (own++capN X.N js) s H C fp) tg g) (ht:∀s H C fp,PTs (blk X scope (own++capN X.N js) s H C fp) ifs tc) (he:∀s H C fp,PE (blk X scope (own++capN X.N js) s H C fp) elt te)
  (hs:∀x,foldedSetIterable iter X.env x=pure x:=by intro _;rfl):PE X (.ListComp elt [⟨tg,iter,ifs,0⟩] scope pos) (q0g own.length js wi g tc te):=by
 intro pins s σ H Q I h
 have hcl:closureFor scope X.env=pure (d0k scope X.env):=d0h fun x hx hf=>I.ok.has x.1 (B.free x hx hf)
 rw[eval_ListComp]
 refine wpAny_comprehension_free (use:=none) rfl hs hcl B.kind B.names (thn (hi pins s σ H _ I h) fun v s1 h1=>thn h1 fun itv s2 h2=>?_)
 refine l0x (RR:=fun acc C=>compPost (model X.prog X.w) X.A X.xe none (EP X pins σ Q) acc C) hc B hg ht he h2 fun C acc s' hb=>?_
 obtain⟨D,H',m,rfl,hn,I',c1,c2,c3,c4,c5,q⟩:=hb
 exact⟨m,hn,fun h' hs'=>⟨.ref D,H',I'.young hs' c1 c2 c3 c4 c5,rfl,q⟩⟩
theorem j0q {elt tg iter:Expr}{ifs:List Expr}{scope:Scope}{pos pos' spos:Pos}{i:Nat}{x:Str}(own:List Str)(js:List Nat){wi:TI}{g:TG}{tc:TT}{te:TE}(hN:X.N.Nodup)(hi:X.N[i]? = some x)(hx:Loc X.env.scope x)
  (hc:X.calm=true) (B:Blk X scope own js) (hit:PI X tg iter wi)
  (hg:∀s H C fp,(own++capN X.N js).Nodup->PG (blk X scope (own++capN X.N js) s H C fp) tg g) (ht:∀s H C fp,PTs (blk X scope (own++capN X.N js) s H C fp) ifs tc) (he:∀s H C fp,PE (blk X scope (own++capN X.N js) s H C fp) elt te)
  (hf:X.fn x=true∨X.env.scope.names.lookup x=some .local:=by first | exact .inl rfl | exact .inr rfl | assumption)
  (hw:swapsWith (.ListComp elt [⟨tg,iter,ifs,0⟩] scope pos) (some (.Name x pos')) spos.line X.env=pure true:=by rfl)
  (hs:∀x,foldedSetIterable iter X.env x=pure x:=by intro _;rfl) :
  PS X (.Assign [.Name x pos'] (.ListComp elt [⟨tg,iter,ifs,0⟩] scope pos) spos) (fun D σ H=>q0g own.length js wi g tc te σ H fun v H'=>D.nx (σ.set i (some v)) H'):=by
 intro pins s σ H D I h
 have hcl:closureFor scope X.env=pure (d0k scope X.env):=d0h fun x hx hf=>I.ok.has x.1 (B.free x hx hf)
 rw[exec_Assign_Name_used _ _ _ _ hw]
 refine wpAny_bind (wpAny_standAt (wpAny_bind ?_))
 show wpAny _ X.A (do let _ <- comprehension (.ListComp elt [⟨tg,iter,ifs,0⟩] scope pos) scope X.env _ (newList []) false (eval iter X.env) (some (assign (.Name x pos') X.env))) _ _ s
 refine wpAny_bind (thn (Q:=fun _ s'=>SP X pins D .next s') (wpAny_comprehension_free (use:=some (assign (.Name x pos') X.env)) rfl hs hcl B.kind B.names (thn (hit pins s σ H _ I h) fun v s1 h1=>thn h1 fun itv s2 h2=>?_)) fun _ s' q=>wpAny_pure (wpAny_pure q))
 refine l0x (Q:=fun v H'=>D.nx (σ.set i (some v)) H') (RR:=fun acc C=>compPost (model X.prog X.w) X.A X.xe (some (assign (.Name x pos') X.env)) (fun _ s'=>SP X pins D .next s') acc C) hc B hg ht he h2 fun C acc s' hb=>?_
 obtain⟨l,H',m,rfl,hn,I',c1,c2,c3,c4,c5,q⟩:=hb
 show wpAny _ X.A (assign (.Name x pos') X.env (.ref l)) _ _ _
 refine wpAny_assign_Name (h0m (v:=.ref l) I' hN hi hx rfl (fun s3 I3 ⟨a,sb,ha⟩=>?_) hf)
 have ne:C≠a:=by
  rcases ha with z | z
  ·rw[z];exact c3
  ·exact(c4 x a z).symm
 exact⟨m,hn.sameBut sb ne,fun h' hs'=>⟨_,H',I3.young hs' c1 c2 c3 c4 c5,q⟩⟩
end
section
variable {X:Cx}
def Dv (j:Int):Prop:=0<j/\j.natAbs.log2<9000
theorem Dv.small {j:Int}(h:0<j)(h2:j<1073741824):Dv j:=⟨h,by
 have e:j.natAbs≠0:=by omega
 have:j.natAbs.log2<30:=(Nat.log2_lt e).mpr (by omega)
 omega⟩
theorem m0s:OpR X (binaryOp .FloorDiv) (rI (fun _ j=>Dv j) fun i j=>.int (i / j)):=opI fun i j _ _ _ _ _ hc q=>by
 rw[<- Int.fdiv_eq_ediv_of_nonneg i (Int.le_of_lt hc.1)]at q
 exact floordiv_int (Int.ne_of_gt hc.1) q (.inl (PyProof.noPylong_of_log2 hc.2))
theorem d1z:MtR X "int.bit_length" (fun x xs H Q=>∃i,x = .int i/\xs=[]/\Q (.int (Builtin.Int.intBits i:Nat)) H):=by
 intro pins s σ H x xs v us Q I rx rv h
 obtain⟨i,rfl,rfl,q⟩:=h
 obtain⟨t,rfl⟩:=rx
 cases rv
 exact call_int_bit_length ⟨.int (Builtin.Int.intBits i:Nat),H,I.tok _,⟨_,rfl⟩,q⟩
def isaT (t T:String):Option Bool:=if(Value.type t==Value.type T)=true then some true else if PySem.W.kitMeta T=true then(fastBuiltinMro t).map (·.contains (.type T))else none
theorem p0e:isaT "int" "int" = some true:=by decide +kernel
theorem n0b:isaT "int" "bool" = some false:=by decide +kernel
theorem n0c:isaT "bool" "int" = some true:=by decide +kernel
theorem k0y:isaT "bool" "bool" = some true:=by decide +kernel
theorem p0c:isaT "str" "int" = some false:=by decide +kernel
theorem p0d:isaT "NoneType" "int" = some false:=by decide +kernel
theorem n0a:isaT "list" "int" = some false:=by decide +kernel
theorem k0x:isaT "tuple" "int" = some false:=by decide +kernel
theorem d0a:isaT "tuple" "tuple" = some true:=by decide +kernel
theorem z0z {K:PySem.W.Frag}{t T:String}:PySem.W.kitOne K (.type t) (.type T)=isaT t T:=rfl
theorem q0o {x:Str}{T:String}{pos:Pos}(hg:Gl X x)(hm:X.mg x=none)(hv:bootBuiltins x=some (.type T))(hn:x ≠ "__name__" := by decide)(hd:(x==("__debug__" : Str))=false:=by decide):PE X (.Name x pos) (tC (.ty T)) :=
 d1p hg hm hv rfl hn hd
structure OkN (P:Program)(w:World)(K:PySem.W.Frag)(mg:Str->Option Value)(base:Heap)(k:Nat)(x:Str)(ps:List Str)(sp:Sp):Prop where
 ex:∃f fd,mg x=some (.ref f)/\PySem.W.keepIn K (.ref f)=true/\u0w K fd ps []/\(∃oc od osl,K.lookup f=some ⟨oc,od,.func fd,osl⟩)/\FnOk P w K mg base CX0 k f fd ps sp
theorem c0f {k:Nat}{x:Str}{ps:List Str}{sp:Sp}{p pos:Pos}{e:Expr}{es:List Expr}{t:TA}(F:OkN X.prog X.w X.K X.mg X.base k x ps sp)(hr:Room k X.A)(ha:PA X (e::es) t)(hg:Gl X x:=by rfl)
  (hdb:(x==("__debug__" : Str))=false:=by decide) (he:starEach (e::es) X.env=(false,eval e X.env)::starEach es X.env:=by rfl) (hpl:(backTo pos (starEach es X.env)).any (·.1)=false:=by rfl) :
  PE X (.Call (.Name x p) (e::es) [] pos) (v0p sp [] E0 t):=by
 obtain⟨f,fd,hm,hk,hb,lk,F⟩:=F.ex
 exact w0k F hr hg hm hk hb .nil j1e ha hdb he hpl
structure DefN (K:PySem.W.Frag)(mg:Str->Option Value)(x:Str)(st:Stmt)(ps:List Str):Prop where
 ex:∃f fd,mg x=some (.ref f)/\Fun K x x st f fd/\∀us:List Value,us.length=ps.length->bindArgs fd ⟨us,[]⟩=pure (ps.zip us)
theorem DefN.ok {P:Program}{w:World}{K:PySem.W.Frag}{mg:Str->Option Value}{base:Heap}{x:Str}{st:Stmt}{N ps:List Str}{k:Nat}{sp:Sp}(D:DefN K mg x st ps)(S:b0l N ps (a0i st))(len:∀vs H Q E,sp vs H Q E->vs.length=ps.length)
  (hbody:∀(f:Addr) (cdv:Value) (A:Around) (outer:List Env) (s:Shared) (H:Hp) (vs:List V) (Q:VK) (E:XK),Room k (A.deeper (envOfC x (a0i st) s.heap.objs.size f cdv))->sp vs H Q E ->
   ∃t,PSs (cxOf CX0 P w K mg base N x (a0i st) f cdv A outer s H E).nox (e0x st) t/\t {nx:=fun _ H'=>Q .non H',rt:=Q} (start N vs) H):OkN P w K mg base (k+1) x ps sp:=by
 obtain⟨f,fd,hm,F,hb⟩:=D.ex
 refine⟨f,fd,hm,F.kp,.all hb,?_,F.ok S len fun cdv A outer s H vs Q E hr h=>hbody f cdv A outer s H vs Q E hr h⟩
 obtain⟨oc,od,kV,doc,pm,an,cdv,ct,osl,_,lk,_⟩:=F.ex
 exact⟨oc,od,osl,lk⟩
theorem d0g {K:PySem.W.Frag}{mg:Str->Option Value}{h:Heap}{x:Str}{st:Stmt}{ps:List Str}{f:Addr}{oc:Value}{od an:Option Addr}{osl:Array (Option Value)}{kV doc pm cdv ct:Value}(KX:K.In h)(G:h.Ns mainGlobals mg)
  (a:PySem.W.nsIn K mainGlobals x=some (some (.ref f))) (l:K.lookup f=some ⟨oc,od,.func (PySem.W.fnOf x x (k0n st) (e0x st) (a0i st) .none kV doc pm an cdv ct),osl⟩)
  (c:PySem.W.codeIn K cdv x=true) (k:PySem.W.keepIn K (.ref f)=true)
  (hb:∀(kV doc pm:Value) (an:Option Addr) (cdv ct:Value) (us:List Value),us.length=ps.length->bindArgs (PySem.W.fnOf x x (k0n st) (e0x st) (a0i st) .none kV doc pm an cdv ct) ⟨us,[]⟩=pure (ps.zip us)):DefN K mg x st ps :=
 ⟨f,_,PySem.W.mg_of KX G a,i1d l c k,fun us hl=>hb kV doc pm an cdv ct us hl⟩
theorem e1d {P:Program}{w:World}{K:PySem.W.Frag}{mg:Str->Option Value}{x p:Str}{st:Stmt}{k:Nat}{fa:Addr}{sp:Sp}(D:DefN K mg x st [p])(hfa:mg x=some (.ref fa))
  (F:∀base:Heap,OkN P w K mg base k x [p] sp):∃fd:FuncData,(∀(s:Shared) (v:Value),BindsTo s fd ⟨[v],[]⟩ [(p,v)])/\∀base:Heap,K.In base->base.Ns mainGlobals mg->FnOk P w K mg base CX0 k fa fd [p] sp:=by
 obtain⟨f,fd,hm,F0,hb⟩:=D.ex
 obtain⟨oc,od,kV,doc,pm,an,cdv,ct,osl,_,lk,_⟩:=F0.ex
 refine⟨fd,fun s v=>.of_eq (hb [v] rfl),fun base _ _=>?_⟩
 obtain⟨f',fd',hm',_,_,⟨oc',od',osl',lk'⟩,G⟩:=(F base).ex
 rw[hfa]at hm'
 cases hm'
 rw[hfa]at hm
 cases hm
 rw[lk]at lk'
 cases lk'
 exact G
end
structure BI (mg:Str->Option Value):Prop where
 len_:mg "len" = none
 range_:mg "range" = none
 isinstance_:mg "isinstance" = none
 int_:mg "int" = none
 bool_:mg "bool" = none
 list_:mg "list" = none
 tuple_:mg "tuple" = none
 str_:mg "str" = none
 sum_:mg "sum" = none
 all_:mg "all" = none
 max_:mg "max" = none
 min_:mg "min" = none
 sorted_:mg "sorted" = none
 set_:mg "set" = none
 zip_:mg "zip" = none
 enumerate_:mg "enumerate" = none
 reversed_:mg "reversed" = none
 dict_:mg "dict" = none
 any_:mg "any" = none
 abs_:mg "abs" = none
theorem j1n {K:PySem.W.Frag}{mg:Str->Option Value}{h:Heap}(KX:K.In h)(G:h.Ns mainGlobals mg)
  (len_:PySem.W.nsIn K mainGlobals "len" = some none) (range_:PySem.W.nsIn K mainGlobals "range" = some none) (isinstance_:PySem.W.nsIn K mainGlobals "isinstance" = some none) (int_:PySem.W.nsIn K mainGlobals "int" = some none) (bool_:PySem.W.nsIn K mainGlobals "bool" = some none) (list_:PySem.W.nsIn K mainGlobals "list" = some none) (tuple_:PySem.W.nsIn K mainGlobals "tuple" = some none) (str_:PySem.W.nsIn K mainGlobals "str" = some none) (sum_:PySem.W.nsIn K mainGlobals "sum" = some none) (all_:PySem.W.nsIn K mainGlobals "all" = some none) (max_:PySem.W.nsIn K mainGlobals "max" = some none) (min_:PySem.W.nsIn K mainGlobals "min" = some none) (sorted_:PySem.W.nsIn K mainGlobals "sorted" = some none) (set_:PySem.W.nsIn K mainGlobals "set" = some none) (zip_:PySem.W.nsIn K mainGlobals "zip" = some none) (enumerate_:PySem.W.nsIn K mainGlobals "enumerate" = some none) (reversed_:PySem.W.nsIn K mainGlobals "reversed" = some none) (dict_:PySem.W.nsIn K mainGlobals "dict" = some none) (any_:PySem.W.nsIn K mainGlobals "any" = some none) (abs_:PySem.W.nsIn K mainGlobals "abs" = some none):BI mg :=
 ⟨PySem.W.mg_none_of KX G len_,PySem.W.mg_none_of KX G range_,PySem.W.mg_none_of KX G isinstance_,PySem.W.mg_none_of KX G int_,PySem.W.mg_none_of KX G bool_,PySem.W.mg_none_of KX G list_,PySem.W.mg_none_of KX G tuple_,PySem.W.mg_none_of KX G str_,PySem.W.mg_none_of KX G sum_,PySem.W.mg_none_of KX G all_,PySem.W.mg_none_of KX G max_,PySem.W.mg_none_of KX G min_,PySem.W.mg_none_of KX G sorted_,PySem.W.mg_none_of KX G set_,PySem.W.mg_none_of KX G zip_,PySem.W.mg_none_of KX G enumerate_,PySem.W.mg_none_of KX G reversed_,PySem.W.mg_none_of KX G dict_,PySem.W.mg_none_of KX G any_,PySem.W.mg_none_of KX G abs_⟩
def Grow (t:Addr)(H H':Hp):Prop:=∀b o,H b=some o->b≠t->H' b=some o
theorem Grow.refl {t:Addr}{H:Hp}:Grow t H H:=fun _ _ h _=>h
theorem Grow.upd {t:Addr}{H H':Hp}(g:Grow t H H')(o:HO):Grow t H (L2.upd H' t o):=fun b u h n=>by rw[a0o n];exact g b u h n
theorem Same.new {H H':Hp}{l:Addr}{o:HO}(s:Same H H')(h:H' l=none):Same H (L2.upd H' l o):=fun b u e=>by
 have:=s b u e
 rw[a0o (b0b this h)];exact this
theorem Same.seqT {K:PySem.W.Frag}{H H':Hp}{a:Addr}{xs:List V}(e:Same H H')(h:SqT K H a xs):SqT K H' a xs:=by
 rcases h with(h | ⟨o,h⟩) | h
 ·exact .inl (.inl (e _ _ h))
 ·exact .inl (.inr ⟨o,e _ _ h⟩)
 ·exact .inr h
theorem Grow.seq {K:PySem.W.Frag}{t:Addr}{H H':Hp}{a:Addr}{xs:List V}{kvs:List (Key×V)}(g:Grow t H H')(ht:H t=some (.dK kvs))(h:SqL K H a xs):SqL K H' a xs:=by
 rcases h with(h | ⟨o,h⟩) | h
 ·exact .inl (.inl (g _ _ h (d1y h ht (by intro z;cases z))))
 ·exact .inl (.inr ⟨o,g _ _ h (d1y h ht (by intro z;cases z))⟩)
 ·exact .inr h
def c0t (c:Addr)(sp lf:Int):List (Key×V):=[(Sum.inr "cells",.ref c),(Sum.inr "spot",.int sp),(Sum.inr "left",.int lf)]
theorem e1v:¬((Sum.inr ("cells" : Str):Key)=Sum.inr ("spot" : Str)):=by decide +kernel
theorem e1y:¬((Sum.inr ("cells" : Str):Key)=Sum.inr ("left" : Str)):=by decide +kernel
theorem z0l:¬((Sum.inr ("spot" : Str):Key)=Sum.inr ("left" : Str)):=by decide +kernel
theorem l0h {c:Addr}{sp lf:Int}:valV (c0t c sp lf) (Sum.inr "cells" : Key)=some (.ref c):=by
 simp[valV,c0t]
theorem v0i {c:Addr}{sp lf:Int}:valV (c0t c sp lf) (Sum.inr "spot" : Key)=some (.int sp):=by
 simp only[valV,c0t,List.find?_cons,decide_eq_false e1v,decide_true,Option.map_some]
theorem v0k {c:Addr}{sp lf:Int}:valV (c0t c sp lf) (Sum.inr "left" : Key)=some (.int lf):=by
 simp only[valV,c0t,List.find?_cons,decide_eq_false e1y,decide_eq_false z0l,decide_true,Option.map_some]
theorem m0n {c:Addr}{sp lf x:Int}:putK (c0t c sp lf) (Sum.inr "left" : Key) (.int x)=c0t c sp x:=by
 unfold putK
 rw[if_pos (by simp[c0t])]
 simp only[c0t,List.map_cons,List.map_nil,if_neg e1y,if_neg z0l,if_pos]
theorem z0o {c:Addr}{sp lf x:Int}:putK (c0t c sp lf) (Sum.inr "spot" : Key) (.int x)=c0t c x lf:=by
 unfold putK
 rw[if_pos (by simp[c0t])]
 simp only[c0t,List.map_cons,List.map_nil,if_neg e1v,if_pos,if_neg (show ¬((Sum.inr ("left" : Str):Key)=Sum.inr ("spot" : Str))from fun e=>z0l e.symm)]
theorem v0j {c:Addr}:k0e [] [((Sum.inr ("cells" : Str):Key),V.ref c),((Sum.inr ("spot" : Str):Key),V.int 0),((Sum.inr ("left" : Str):Key),V.int 0)]=c0t c 0 0:=by
 simp only[k0e,List.foldl_cons,List.foldl_nil]
 have e1:putK ([]:List (Key×V)) (Sum.inr ("cells" : Str)) (V.ref c)=[((Sum.inr ("cells" : Str):Key),V.ref c)]:=by simp[putK]
 have e2:putK [((Sum.inr ("cells" : Str):Key),V.ref c)] (Sum.inr ("spot" : Str)) (V.int 0)=[((Sum.inr ("cells" : Str):Key),V.ref c),((Sum.inr ("spot" : Str):Key),V.int 0)]:=by
  unfold putK
  rw[if_neg (by simp only[List.any_cons,List.any_nil,decide_eq_false e1v];simp)]
  rfl
 have e3:putK [((Sum.inr ("cells" : Str):Key),V.ref c),((Sum.inr ("spot" : Str):Key),V.int 0)] (Sum.inr ("left" : Str)) (V.int 0)=c0t c 0 0:=by
  unfold putK
  rw[if_neg (by simp only[List.any_cons,List.any_nil,decide_eq_false e1y,decide_eq_false z0l];simp)]
  rfl
 rw[e1,e2,e3]
theorem j1l {ns:List Int}:cutV (ns.map V.int) none (some 63)=(ns.take 63).map V.int:=by
 unfold cutV
 have e0:HT.sIx (ns.map V.int).length 0 none=0:=rfl
 rw[e0,List.drop_zero,Nat.sub_zero,List.map_take]
 show List.take (HT.sIx _ _ (some ((63:Nat):Int))) _=_
 rw[HT.sIx_nat]
 rcases Nat.le_total 63 (ns.map V.int).length with h | h
 ·rw[Nat.min_eq_left h]
 ·rw[Nat.min_eq_right h,List.take_of_length_le (Nat.le_refl _),List.take_of_length_le h]
end L2
namespace L2
theorem drawn {Q:Int->Hp->Prop}{m x:Int}{H':Hp}(hm:0<m)(k:∀r:Nat,(r:Int)<m->Q (r:Nat) H'):Q (x % m) H':=by
 obtain⟨r,e⟩:=Int.eq_ofNat_of_zero_le (Int.emod_nonneg x (Int.ne_of_gt hm))
 have:=Int.emod_lt_of_pos x hm
 rw[e]at this ⊢
 exact k r this
theorem s0a {y:Int}:-(2^64)<y % 2147483647/\y % 2147483647<2^64:=by omega
theorem dv64:Dv 64:=Dv.small (by decide) (by decide)
end L2
namespace L2
open PySem PySem.Spec PyProof.Rows
theorem r0s (a b:Nat):Builtin.bitAnd (a:Int) (b:Int)=((a &&& b:Nat):Int):=by
 unfold Builtin.bitAnd
 rw[decide_eq_true (Int.natCast_nonneg a),decide_eq_true (Int.natCast_nonneg b)]
 simp
theorem h1b (a b:Nat):Builtin.bitOr (a:Int) (b:Int)=((a ||| b:Nat):Int):=by
 unfold Builtin.bitOr Builtin.bitAnd Builtin.bitNot
 rw[decide_eq_false (show ¬(0:Int) <= -(a:Int) - 1 by omega),decide_eq_false (show ¬(0:Int) <= -(b:Int) - 1 by omega)]
 have h1:(-(-(a:Int) - 1) - 1).toNat=a:=by omega
 have h2:(-(-(b:Int) - 1) - 1).toNat=b:=by omega
 simp only[h1,h2]
 omega
theorem h0c:∀(a b:Nat),(a ^^^ b)+2*(a &&& b)=a+b:=by
 intro a
 induction a using Nat.strongRecOn with
 | ind a ih =>
  intro b
  by_cases h0:a=0
  ·subst h0;simp
  ·have h:=ih (a / 2) (by omega) (b / 2)
   have e1:(a ^^^ b) / 2=a / 2 ^^^ b / 2:=Nat.xor_div_two
   have e2:(a &&& b) / 2=a / 2 &&& b / 2:=Nat.and_div_two
   have e3:(a ^^^ b) % 2=(a+b) % 2:=by
    have:=Nat.testBit_xor a b 0
    rw[Nat.testBit_zero,Nat.testBit_zero,Nat.testBit_zero]at this
    rcases Nat.mod_two_eq_zero_or_one a with p | p <;> rcases Nat.mod_two_eq_zero_or_one b with q | q <;> rcases Nat.mod_two_eq_zero_or_one (a ^^^ b)with r | r <;> simp[p,q,r]at this <;> omega
   have e4:(a &&& b) % 2=(a % 2)*(b % 2):=by
    have:=Nat.testBit_and a b 0
    rw[Nat.testBit_zero,Nat.testBit_zero,Nat.testBit_zero]at this
    rcases Nat.mod_two_eq_zero_or_one a with p | p <;> rcases Nat.mod_two_eq_zero_or_one b with q | q <;> rcases Nat.mod_two_eq_zero_or_one (a &&& b)with r | r <;> simp[p,q,r]at this <;> simp[p,q,r]
   rcases Nat.mod_two_eq_zero_or_one a with p | p <;> rcases Nat.mod_two_eq_zero_or_one b with q | q <;> rw[p,q]at e4 <;> omega
theorem u0y (a b:Nat):Builtin.bitXor (a:Int) (b:Int)=((a ^^^ b:Nat):Int):=by
 unfold Builtin.bitXor
 rw[h1b,r0s]
 have h1:(a ||| b)+(a &&& b)=a+b:=by
  have:=h0c a b
  have e:(a ||| b)=(a ^^^ b)+(a &&& b):=by
   have h2:=h0c (a ^^^ b) (a &&& b)
   have h3:(a ^^^ b) &&& (a &&& b)=0:=by
    apply Nat.eq_of_testBit_eq
    intro i
    simp only[Nat.testBit_and,Nat.testBit_xor,Nat.zero_testBit]
    cases a.testBit i <;> cases b.testBit i <;> rfl
   have h4:(a ^^^ b) ^^^ (a &&& b)=a ||| b:=by
    apply Nat.eq_of_testBit_eq
    intro i
    simp only[Nat.testBit_and,Nat.testBit_xor,Nat.testBit_or]
    cases a.testBit i <;> cases b.testBit i <;> rfl
   rw[h3,h4]at h2
   omega
  omega
 have:=h0c a b
 omega
theorem d1f (a k:Nat):(a:Int) / 2^((k:Int).toNat)=((a >>> k:Nat):Int):=by
 rw[Int.toNat_natCast,Nat.shiftRight_eq_div_pow]
 exact(Int.natCast_ediv a (2^k)).symm.trans (by norm_cast) |>.symm▸(by simp)
theorem y0m (a k:Nat):Builtin.bitAnd ((a:Int) / 2^((k:Int).toNat)) 1=if a.testBit k then 1 else 0:=by
 rw[d1f,show(1:Int)=((1:Nat):Int)from rfl,r0s]
 have:(a >>> k) &&& 1=(a.testBit k).toNat:=by
  rw[Nat.and_one_is_mod,Nat.testBit]
  rw[Nat.one_and_eq_mod_two]
  rcases Nat.mod_two_eq_zero_or_one (a >>> k)with p | p <;> simp[p]
 rw[this]
 cases a.testBit k <;> rfl
theorem j0l (k:Nat):(1:Int)*(2:Int)^((k:Int).toNat)=((1 <<< k:Nat):Int):=by
 rw[Int.toNat_natCast,Nat.shiftLeft_eq,Int.one_mul,Nat.one_mul]
 simp
def f0s (n:Nat):Nat:=if n=0 then 0 else n.log2+1
theorem a1r (n:Nat):Builtin.Int.intBits (n:Int)=f0s n:=by
 unfold Builtin.Int.intBits f0s
 by_cases h:n=0
 ·subst h;rfl
 ·rw[if_neg (by simp;omega),if_neg h];simp
def b0q (n:Nat):List Nat:=(List.range (f0s n)).filter n.testBit
def d1d (K:PySem.W.Frag):Sp:=fun vs H Q _=>∃(a:Addr) (ns:List Int),vs=[.ref a]/\SqL K H a (ns.map V.int)/\ns.length<=63/\∀H',Q (.bl true) H'
theorem f1a {n m:Nat}(h:n<2^m):f0s n<=m:=by
 unfold f0s
 by_cases h0:n=0
 ·rw[if_pos h0];omega
 ·rw[if_neg h0]
  exact(Nat.log2_lt h0).mpr h
theorem d0d:bootBuiltins "len" = some (.builtin "len"):=by decide +kernel
theorem a0s:bootBuiltins "isinstance" = some (.builtin "isinstance"):=by decide +kernel
theorem c1k:bootBuiltins "int" = some (.type "int"):=by decide +kernel
theorem e1z:bootBuiltins "bool" = some (.type "bool"):=by decide +kernel
theorem d0q:bootBuiltins "tuple" = some (.type "tuple"):=by decide +kernel
theorem i1k:bootBuiltins "sum" = some (.builtin "sum"):=by decide +kernel
theorem c1m:bootBuiltins "all" = some (.builtin "all"):=by decide +kernel
theorem i1m:bootBuiltins "max" = some (.builtin "max"):=by decide +kernel
theorem i1l:bootBuiltins "min" = some (.builtin "min"):=by decide +kernel
theorem y0k:bootBuiltins "sorted" = some (.builtin "sorted"):=by decide +kernel
theorem p0t:bootBuiltins "enumerate" = some (.type "enumerate"):=by decide +kernel
section
variable {X:Cx}{a b e o:Expr}{es:List Expr}{ta tb te to:TE}{t:TA}{pos apos cpos:Pos}(K:PySem.W.Frag)
theorem w0f (ha:PE X a ta)(he:∀whole,isTrue a X.env whole=(do let v <- whole;standAt a.pos;holding [v] (truthy v)))(hK:X.K=K:=by rfl) :
  PT X a (fun σ H Q=>ta σ H fun x H'=>∃k,TruV K x H' k/\Q k H'):=by subst hK;exact z0p ha he
theorem g0u (hK:X.K=K:=by rfl):OpR X (compareOp .In) (rIn K false):=by subst hK;exact w0p
theorem h0q (hK:X.K=K:=by rfl):OpR X (compareOp .NotIn) (rIn K true):=by subst hK;exact o0j
theorem c0o (hK:X.K=K:=by rfl):IxR X (rIx K):=by subst hK;exact h1v
theorem m0j (hK:X.K=K:=by rfl):SlR X (rSlL K):=by subst hK;exact d1e
theorem b0e (hK:X.K=K:=by rfl):i0a X (.builtin "len") (fun xs H Q=>∃p ys,xs=[.ref p]/\(SqL K H p ys∨SqT K H p ys)/\Q (.int ys.length) H):=by subst hK;exact p0q
theorem d0o (hK:X.K=K:=by rfl):i0a X (.type "tuple") (fun xs H Q=>∃p ys,xs=[.ref p]/\((SqL K H p ys/\∀l,H l=none->Q (.ref l) (upd H l (.tup ys)))∨(SqT K H p ys/\Q (.ref p) H))):=by subst hK;exact n0n
theorem i0d {es:List Expr}{k:Nat}{t:TGs}{n:Nat}(hc:X.calm=true)(h:PGs X es t)(hn:(assignEach es X.env).length=n:=by rfl)(hst:(assignEach es X.env).findIdx? (·.1)=none:=by rfl)(hK:X.K=K:=by rfl) :
  PG X (.Tuple es k pos) (gTup K n t):=by subst hK;exact g1w hc h hn hst
variable {name:Str}{T id:String}{r:V->List V->Hp->VK->Prop}
theorem d1o (pa:PlainAttrs T)(slot:Slot T name id)(hty:typeOf (.builtin id)=pure (.type "method_descriptor"))(hm:MtR X id r)(ho:PE X o to)
  (hbase:attributeBase o name X.env (eval o X.env)=eval o X.env:=by rfl) (hline:(apos.endLine==cpos.line)=true:=by rfl) (hK:X.K=K:=by rfl):PE X (.Call (.Attribute o name apos) [] [] cpos) (tBM0 K T r to):=by
 subst hK;exact h1a pa slot hty hm ho hbase hline
theorem l0l (pa:PlainAttrs T)(slot:Slot T name id)(hty:typeOf (.builtin id)=pure (.type "method_descriptor"))(hm:MtR X id r)(ho:PE X o to)(ha:PA X (e::es) t)
  (hbase:attributeBase o name X.env (eval o X.env)=eval o X.env:=by rfl)
  (hfew:((backTo cpos (starEach (e::es) X.env)).all (fun x=>!x.1)&&(backToKw cpos (keywordEach [] X.env)).all (fun x=>x.1.isSome)&&decide ((e::es).length+([]:List Keyword).length+(if([]:List Keyword).isEmpty then 0 else 1)<30))=true:=by rfl)
  (hline:(apos.endLine==cpos.line)=true:=by rfl) (he:starEach (e::es) X.env=(false,eval e X.env)::starEach es X.env:=by rfl) (hpl:(backTo cpos (starEach es X.env)).any (·.1)=false:=by rfl)
  (hK:X.K=K:=by rfl):PE X (.Call (.Attribute o name apos) (e::es) [] cpos) (tBM K T r to t):=by
 subst hK
 exact j1c pa slot hty hm ho ha hbase hfew hline he hpl
end
inductive D where
 | non | bl (b:Bool) | int (i:Int) | str (x:Str) | tup (ds:List D) | lst (ds:List D)
def StT (H:Hp)(a:Addr)(xs:List V):Prop:=H a=some (.tup xs)
theorem StT.sq {K:PySem.W.Frag}{H:Hp}{a:Addr}{xs:List V}(h:StT H a xs):SqT K H a xs:=SqT.of h
instance {K:PySem.W.Frag} {H:Hp} {a:Addr} {xs:List V}:Coe (StT H a xs) (SqT K H a xs):=⟨StT.sq⟩
def StL (H:Hp)(a:Addr)(xs:List V):Prop:=H a=some (.lst xs)
theorem StL.sq {K:PySem.W.Frag}{H:Hp}{a:Addr}{xs:List V}(h:StL H a xs):SqL K H a xs:=SqL.of h
instance {K:PySem.W.Frag} {H:Hp} {a:Addr} {xs:List V}:Coe (StL H a xs) (SqL K H a xs):=⟨StL.sq⟩
mutual
def RepD (K:PySem.W.Frag)(H:Hp):V->D->Prop
 | v,.non=>v = .non
 | v,.bl b=>v = .bl b
 | v,.int i=>v = .int i
 | v,.str x=>v = .str x
 | v,.tup ds=>∃a vs,v = .ref a/\StT H a vs/\RepDs K H vs ds
 | v,.lst ds=>∃a vs,v = .ref a/\StL H a vs/\RepDs K H vs ds
def RepDs (K:PySem.W.Frag)(H:Hp):List V->List D->Prop
 | [],[]=>True
 | v::vs,d::ds=>RepD K H v d/\RepDs K H vs ds
 | _,_=>False
end
mutual
def eqD:D->D->Bool
 | .non,.non=>true
 | .bl a,.bl b=>a==b
 | .bl a,.int b=>(if a then 1 else 0)==b
 | .int a,.bl b=>a==(if b then 1 else 0)
 | .int a,.int b=>a==b
 | .str a,.str b=>a==b
 | .tup ds,.tup es=>eqDs ds es
 | .lst ds,.lst es=>eqDs ds es
 | _,_=>false
def eqDs:List D->List D->Bool
 | [],[]=>true
 | d::ds,e::es=>eqD d e&&eqDs ds es
 | _,_=>false
end
mutual
def D.depth:D->Nat
 | .tup ds=>depths ds+1
 | .lst ds=>depths ds+1
 | _=>0
def depths:List D->Nat
 | []=>0
 | d::ds=>max d.depth (depths ds)
end
section
variable {K:PySem.W.Frag}{H H':Hp}
theorem RepDs.length:∀ {vs:List V} {ds:List D},RepDs K H vs ds->vs.length=ds.length
 | [],[],_=>rfl
 | v::vs,d::ds,h=>by
  unfold RepDs at h
  rw[List.length_cons,List.length_cons,RepDs.length h.2]
 | [],d::ds,h=>by unfold RepDs at h;exact h.elim
 | v::vs,[],h=>by unfold RepDs at h;exact h.elim
theorem RepDs.get:∀ {vs:List V} {ds:List D} {i:Nat} {d:D},RepDs K H vs ds->ds[i]? = some d->∃v,vs[i]? = some v/\RepD K H v d
 | [],[],_,_,_,e=>by simp at e
 | v::vs,d::ds,0,_,h,e=>by
  unfold RepDs at h
  simp at e;subst e
  exact⟨v,rfl,h.1⟩
 | v::vs,d::ds,i+1,_,h,e=>by
  unfold RepDs at h
  obtain⟨u,a,b⟩:=RepDs.get (i:=i) h.2 (by simpa using e)
  exact⟨u,by simpa using a,b⟩
 | [],d::ds,_,_,h,_=>by unfold RepDs at h;exact h.elim
 | v::vs,[],_,_,h,_=>by unfold RepDs at h;exact h.elim
theorem RepDs.getV:∀ {vs:List V} {ds:List D} {i:Nat} {v:V},RepDs K H vs ds->vs[i]? = some v->∃d,ds[i]? = some d/\RepD K H v d
 | [],[],_,_,_,e=>by simp at e
 | v::vs,d::ds,0,_,h,e=>by
  unfold RepDs at h
  simp at e;subst e
  exact⟨d,rfl,h.1⟩
 | v::vs,d::ds,i+1,_,h,e=>by
  unfold RepDs at h
  obtain⟨u,a,b⟩:=RepDs.getV (i:=i) h.2 (by simpa using e)
  exact⟨u,by simpa using a,b⟩
 | [],d::ds,_,_,h,_=>by unfold RepDs at h;exact h.elim
 | v::vs,[],_,_,h,_=>by unfold RepDs at h;exact h.elim
theorem RepDs.append:∀ {vs ws:List V} {ds es:List D},RepDs K H vs ds->RepDs K H ws es->RepDs K H (vs++ws) (ds++es)
 | [],ws,[],es,_,h=>h
 | v::vs,ws,d::ds,es,h,h'=>by
  unfold RepDs at h
  show RepDs K H (v::(vs++ws)) (d::(ds++es))
  unfold RepDs
  exact⟨h.1,RepDs.append h.2 h'⟩
 | [],_,d::ds,_,h,_=>by unfold RepDs at h;exact h.elim
 | v::vs,_,[],_,h,_=>by unfold RepDs at h;exact h.elim
theorem RepDs.one {v:V}{d:D}(h:RepD K H v d):RepDs K H [v] [d]:=by unfold RepDs;exact⟨h,by unfold RepDs;trivial⟩
theorem RepDs.nil:RepDs K H [] []:=by unfold RepDs;trivial
theorem RepDs.cons {v:V}{d:D}{vs:List V}{ds:List D}(h:RepD K H v d)(t:RepDs K H vs ds):RepDs K H (v::vs) (d::ds):=by unfold RepDs;exact⟨h,t⟩
theorem q0k:∀ {vs:List V} {ns:List Int},RepDs K H vs (ns.map D.int)↔vs=ns.map V.int
 | [],[]=>by simp[RepDs]
 | v::vs,n::ns=>by
  have ih:=@q0k vs ns
  rw[List.map_cons,List.map_cons]
  unfold RepDs RepD
  rw[ih]
  constructor
  ·rintro⟨rfl,rfl⟩;rfl
  ·intro h;injection h with h1 h2;exact⟨h1,h2⟩
 | [],n::ns=>by rw[List.map_cons];unfold RepDs;simp
 | v::vs,[]=>by rw[List.map_nil];unfold RepDs;simp
mutual
theorem RepD.keep (hl:∀a vs,StL H a vs->StL H' a vs)(ht:∀a vs,StT H a vs->StT H' a vs):∀ {v:V} {d:D},RepD K H v d->RepD K H' v d
 | v,.non,h=>by unfold RepD at h ⊢;exact h
 | v,.bl b,h=>by unfold RepD at h ⊢;exact h
 | v,.int i,h=>by unfold RepD at h ⊢;exact h
 | v,.str x,h=>by unfold RepD at h ⊢;exact h
 | v,.tup ds,h=>by
  unfold RepD at h ⊢
  obtain⟨a,vs,e,h1,h2⟩:=h
  exact⟨a,vs,e,ht _ _ h1,RepDs.keep hl ht h2⟩
 | v,.lst ds,h=>by
  unfold RepD at h ⊢
  obtain⟨a,vs,e,h1,h2⟩:=h
  exact⟨a,vs,e,hl _ _ h1,RepDs.keep hl ht h2⟩
theorem RepDs.keep (hl:∀a vs,StL H a vs->StL H' a vs)(ht:∀a vs,StT H a vs->StT H' a vs):∀ {vs:List V} {ds:List D},RepDs K H vs ds->RepDs K H' vs ds
 | [],[],_=>RepDs.nil
 | v::vs,d::ds,h=>by
  unfold RepDs at h ⊢
  exact⟨RepD.keep hl ht h.1,RepDs.keep hl ht h.2⟩
 | [],d::ds,h=>by unfold RepDs at h;exact h.elim
 | v::vs,[],h=>by unfold RepDs at h;exact h.elim
end
theorem RepD.same {v:V}{d:D}(h:RepD K H v d)(s:Same H H'):RepD K H' v d:=h.keep (fun _ _ q=>s _ _ q) fun _ _ q=>s _ _ q
theorem RepDs.same {vs:List V}{ds:List D}(h:RepDs K H vs ds)(s:Same H H'):RepDs K H' vs ds:=h.keep (fun _ _ q=>s _ _ q) fun _ _ q=>s _ _ q
end
mutual
theorem h0y:∀d:D,eqD d d=true
 | .non=>by simp[eqD]
 | .bl b=>by simp[eqD]
 | .int i=>by simp[eqD]
 | .str x=>by simp[eqD]
 | .tup ds=>by unfold eqD;exact eqDs_refl ds
 | .lst ds=>by unfold eqD;exact eqDs_refl ds
theorem eqDs_refl:∀ds:List D,eqDs ds ds=true
 | []=>by simp[eqDs]
 | d::ds=>by unfold eqDs;rw[h0y d,eqDs_refl ds];rfl
end
section
variable {X:Cx}{pins:List (Addr×Obj)}{σ:St}{H:Hp}{s:Shared}
mutual
theorem m0m (I:Inv X pins σ H s):∀ {v:V} {d e:D},RepD X.K H v d->RepD X.K H v e->d=e
 | v,.non,e,h,h'=>by
  unfold RepD at h;subst h
  cases e <;> (unfold RepD at h';first | rfl | (obtain⟨_,_,z,_⟩:=h';cases z) | cases h')
 | v,.bl b,e,h,h'=>by
  unfold RepD at h;subst h
  cases e <;> (unfold RepD at h';first | (cases h';rfl) | (obtain⟨_,_,z,_⟩:=h';cases z) | cases h')
 | v,.int b,e,h,h'=>by
  unfold RepD at h;subst h
  cases e <;> (unfold RepD at h';first | (cases h';rfl) | (obtain⟨_,_,z,_⟩:=h';cases z) | cases h')
 | v,.str b,e,h,h'=>by
  unfold RepD at h;subst h
  cases e <;> (unfold RepD at h';first | (cases h';rfl) | (obtain⟨_,_,z,_⟩:=h';cases z) | cases h')
 | v,.tup ds,e,h,h'=>by
  unfold RepD at h
  obtain⟨a,vs,rfl,h1,h2⟩:=h
  cases e with
  | tup es =>
   unfold RepD at h'
   obtain⟨b,ws,z,g1,g2⟩:=h'
   cases z
   rw[I.tuple_inj g1.sq h1.sq]at g2
   rw[repDs_inj I h2 g2]
  | lst es =>
   unfold RepD at h'
   obtain⟨b,ws,z,g1,g2⟩:=h'
   cases z
   obtain⟨_,_,⟨o,n,e1,c1,_⟩,_⟩:=I.list (StL.sq g1)
   obtain⟨_,_,⟨o',e2,c2,_⟩,_⟩:=I.tuple h1.sq
   rw[e1]at e2;cases e2
   rw[c1]at c2
   exact absurd c2 (by decide)
  | non=>unfold RepD at h';cases h'
  | bl _=>unfold RepD at h';cases h'
  | int _=>unfold RepD at h';cases h'
  | str _=>unfold RepD at h';cases h'
 | v,.lst ds,e,h,h'=>by
  unfold RepD at h
  obtain⟨a,vs,rfl,h1,h2⟩:=h
  cases e with
  | lst es =>
   unfold RepD at h'
   obtain⟨b,ws,z,g1,g2⟩:=h'
   cases z
   rw[I.list_inj (StL.sq g1) (StL.sq h1)]at g2
   rw[repDs_inj I h2 g2]
  | tup es =>
   unfold RepD at h'
   obtain⟨b,ws,z,g1,g2⟩:=h'
   cases z
   obtain⟨_,_,⟨o,n,e1,c1,_⟩,_⟩:=I.list (StL.sq h1)
   obtain⟨_,_,⟨o',e2,c2,_⟩,_⟩:=I.tuple g1.sq
   rw[e1]at e2;cases e2
   rw[c1]at c2
   exact absurd c2 (by decide)
  | non=>unfold RepD at h';cases h'
  | bl _=>unfold RepD at h';cases h'
  | int _=>unfold RepD at h';cases h'
  | str _=>unfold RepD at h';cases h'
theorem repDs_inj (I:Inv X pins σ H s):∀ {vs:List V} {ds es:List D},RepDs X.K H vs ds->RepDs X.K H vs es->ds=es
 | [],[],[],_,_=>rfl
 | v::vs,d::ds,e::es,h,h'=>by
  unfold RepDs at h h'
  rw[m0m I h.1 h'.1,repDs_inj I h.2 h'.2]
 | [],d::ds,_,h,_=>by unfold RepDs at h;exact h.elim
 | v::vs,[],_,h,_=>by unfold RepDs at h;exact h.elim
 | [],_,d::ds,_,h=>by unfold RepDs at h;exact h.elim
 | v::vs,_,[],_,h=>by unfold RepDs at h;exact h.elim
end
end
theorem h0u (A:Around):A.in1.units=A.units+1:=rfl
theorem l0u:∀ {ds:List D} {j:Nat} {d:D},ds[j]? = some d->d.depth<=depths ds
 | [],_,_,h=>by simp at h
 | d::ds,0,_,h=>by simp at h;subst h;unfold depths;omega
 | d::ds,j+1,e,h=>by
  have:=l0u (ds:=ds) (j:=j) (by simpa using h)
  unfold depths;omega
def p0n (ds es:List D)(j:Nat):Bool:=match ds[j]?,es[j]? with
 | some d,some e=>eqD d e
 | _,_=>true
theorem f0f:∀ {ds es:List D},ds.length=es.length->(List.range ds.length).all (p0n ds es)=eqDs ds es
 | [],[],_=>by simp[eqDs]
 | d::ds,e::es,h=>by
  have ih:=f0f (ds:=ds) (es:=es) (by simpa using h)
  rw[List.length_cons,List.range_succ_eq_map,List.all_cons,List.all_map]
  unfold eqDs
  rw[<- ih]
  congr 1
 | [],_::_,h=>by simp at h
 | _::_,[],h=>by simp at h
theorem d0x:∀ {ds es:List D},ds.length≠es.length->eqDs ds es=false
 | [],[],h=>absurd rfl h
 | [],_::_,_=>by simp[eqDs]
 | _::_,[],_=>by simp[eqDs]
 | d::ds,e::es,h=>by
  unfold eqDs
  rw[d0x (ds:=ds) (es:=es) (by simpa using h),Bool.and_false]
section
variable {X:Cx}{pins:List (Addr×Obj)}{σ:St}{H:Hp}{s:Shared}
theorem j0c (I:Inv X pins σ H s){m:Nat}(ih:∀ {A:Around} {v u:V} {vv uu:Value} {d e:D},d.depth<=m->A.units+m<cLine->RelV v vv->RelV u uu->RepD X.K H v d->RepD X.K H u e->SeqAt.EqAt A s vv uu (eqD d e)){A:Around}(hu:A.units+m<cLine)
  {vs us:List V} {vvs uus:List Value} {ds es:List D} (hd:depths ds<=m) (rv:Vals vs vvs) (ru:Vals us uus) (hv:RepDs X.K H vs ds) (he:RepDs X.K H us es) :
  ∀j (h1:j<vvs.toArray.size) (h2:j<uus.toArray.size),SeqAt.EqAt A s vvs.toArray[j] uus.toArray[j] (p0n ds es j):=by
 intro j h1 h2
 rw[List.size_toArray]at h1 h2
 have l1:=rv.length
 have l2:=ru.length
 have g1:vs[j]? = some vs[j]:=List.getElem?_eq_getElem (by omega)
 have g2:us[j]? = some us[j]:=List.getElem?_eq_getElem (by omega)
 obtain⟨x,ex,rx⟩:=rv.get g1
 obtain⟨y,ey,ry⟩:=ru.get g2
 obtain⟨d,ed,rd⟩:=hv.getV g1
 obtain⟨e,ee,re⟩:=he.getV g2
 rw[List.getElem?_eq_getElem h1]at ex
 rw[List.getElem?_eq_getElem h2]at ey
 cases ex
 cases ey
 have:p0n ds es j=eqD d e:=by unfold p0n;rw[ed,ee]
 rw[this,List.getElem_toArray,List.getElem_toArray]
 exact ih (Nat.le_trans (l0u ed) hd) hu rx ry rd re
theorem b1u (I:Inv X pins σ H s)(n:Nat)(ih:0<n->∀ {A:Around} {v u:V} {vv uu:Value} {d e:D},d.depth<=n - 1->A.units+(n - 1)<cLine->RelV v vv->RelV u uu->RepD X.K H v d->RepD X.K H u e->SeqAt.EqAt A s vv uu (eqD d e))
  {A:Around} {v u:V} {vv uu:Value} {d e:D} (hd:d.depth<=n) (hu:A.units+n<cLine) (rv:RelV v vv) (ru:RelV u uu) (hv:RepD X.K H v d) (he:RepD X.K H u e):SeqAt.RcAt A s vv uu (eqD d e)/\SeqAt.EqAt A s vv uu (eqD d e):=by
 have hu0:A.units<cLine:=by omega
 have isL:∀ {a xs},StL H a xs->∃its:List Value,Vals xs its/\s.heap.IsList a its.toArray:=fun q=>by
  obtain⟨its,r,p,_⟩:=I.list q.sq
  exact⟨its,r,p.isList⟩
 have isT:∀ {a xs},StT H a xs->∃its:List Value,Vals xs its/\s.heap.IsTuple a its.toArray:=fun q=>by
  obtain⟨its,r,p,_⟩:=I.tuple q.sq
  exact⟨its,r,p⟩
 cases d with
 | non =>
  unfold RepD at hv;subst hv;cases rv
  cases e with
  | non=>unfold RepD at he;subst he;cases ru;exact⟨.none_none,.same _⟩
  | bl b=>unfold RepD at he;subst he;cases ru;exact⟨.none_bool _,.none_bool _⟩
  | int b=>unfold RepD at he;subst he;obtain⟨t,rfl⟩:=ru;exact⟨.none_int _ _,.none_int _ _⟩
  | str b=>unfold RepD at he;subst he;obtain⟨t,rfl⟩:=ru;exact⟨.none_str _ _,.none_str _ _⟩
  | tup es=>unfold RepD at he;obtain⟨a,vs,rfl,q,_⟩:=he;cases ru;obtain⟨its,_,q⟩:=isT q;exact⟨.none_tuple q hu0,.none_tuple q hu0⟩
  | lst es=>unfold RepD at he;obtain⟨a,vs,rfl,q,_⟩:=he;cases ru;obtain⟨its,_,q⟩:=isL q;exact⟨.none_list q hu0,.none_list q hu0⟩
 | bl x =>
  unfold RepD at hv;subst hv;cases rv
  cases e with
  | non=>unfold RepD at he;subst he;cases ru;exact⟨.bool_none _,.bool_none _⟩
  | bl b=>unfold RepD at he;subst he;cases ru;exact⟨.bool_bool _ _,.bool_bool _ _⟩
  | int b=>unfold RepD at he;subst he;obtain⟨t,rfl⟩:=ru;exact⟨.bool_int _ _ _,.bool_int _ _ _⟩
  | str b=>unfold RepD at he;subst he;obtain⟨t,rfl⟩:=ru;exact⟨.bool_str _ _ _,.bool_str _ _ _⟩
  | tup es=>unfold RepD at he;obtain⟨a,vs,rfl,q,_⟩:=he;cases ru;obtain⟨its,_,q⟩:=isT q;exact⟨.bool_tuple _ q hu0,.bool_tuple _ q hu0⟩
  | lst es=>unfold RepD at he;obtain⟨a,vs,rfl,q,_⟩:=he;cases ru;obtain⟨its,_,q⟩:=isL q;exact⟨.bool_list _ q hu0,.bool_list _ q hu0⟩
 | int x =>
  unfold RepD at hv;subst hv;obtain⟨t0,rfl⟩:=rv
  cases e with
  | non=>unfold RepD at he;subst he;cases ru;exact⟨.int_none _ _,.int_none _ _⟩
  | bl b=>unfold RepD at he;subst he;cases ru;exact⟨.int_bool _ _ _,.int_bool _ _ _⟩
  | int b=>unfold RepD at he;subst he;obtain⟨t,rfl⟩:=ru;exact⟨.int_int _ _ _ _,.int_int _ _ _ _⟩
  | str b=>unfold RepD at he;subst he;obtain⟨t,rfl⟩:=ru;exact⟨.int_str _ _ _ _,.int_str _ _ _ _⟩
  | tup es=>unfold RepD at he;obtain⟨a,vs,rfl,q,_⟩:=he;cases ru;obtain⟨its,_,q⟩:=isT q;exact⟨.int_tuple _ _ q hu0,.int_tuple _ _ q hu0⟩
  | lst es=>unfold RepD at he;obtain⟨a,vs,rfl,q,_⟩:=he;cases ru;obtain⟨its,_,q⟩:=isL q;exact⟨.int_list _ _ q hu0,.int_list _ _ q hu0⟩
 | str x =>
  unfold RepD at hv;subst hv;obtain⟨t0,rfl⟩:=rv
  cases e with
  | non=>unfold RepD at he;subst he;cases ru;exact⟨.str_none _ _,.str_none _ _⟩
  | bl b=>unfold RepD at he;subst he;cases ru;exact⟨.str_bool _ _ _,.str_bool _ _ _⟩
  | int b=>unfold RepD at he;subst he;obtain⟨t,rfl⟩:=ru;exact⟨.str_int _ _ _ _,.str_int _ _ _ _⟩
  | str b=>unfold RepD at he;subst he;obtain⟨t,rfl⟩:=ru;exact⟨.str_str _ _ _ _,.str_str _ _ _ _⟩
  | tup es=>unfold RepD at he;obtain⟨a,vs,rfl,q,_⟩:=he;cases ru;obtain⟨its,_,q⟩:=isT q;exact⟨.str_tuple _ _ q hu0,.str_tuple _ _ q hu0⟩
  | lst es=>unfold RepD at he;obtain⟨a,vs,rfl,q,_⟩:=he;cases ru;obtain⟨its,_,q⟩:=isL q;exact⟨.str_list _ _ q hu0,.str_list _ _ q hu0⟩
 | tup ds =>
  have hv0:=hv
  unfold RepD at hv
  obtain⟨a,vs,rfl,q,hq⟩:=hv
  cases rv
  obtain⟨its,r1,q1⟩:=isT q
  cases e with
  | non=>unfold RepD at he;subst he;cases ru;exact⟨.tuple_none q1 hu0,.tuple_none q1 hu0⟩
  | bl b=>unfold RepD at he;subst he;cases ru;exact⟨.tuple_bool _ q1 hu0,.tuple_bool _ q1 hu0⟩
  | int b=>unfold RepD at he;subst he;obtain⟨t,rfl⟩:=ru;exact⟨.tuple_int _ _ q1 hu0,.tuple_int _ _ q1 hu0⟩
  | str b=>unfold RepD at he;subst he;obtain⟨t,rfl⟩:=ru;exact⟨.tuple_str _ _ q1 hu0,.tuple_str _ _ q1 hu0⟩
  | lst es=>unfold RepD at he;obtain⟨b,ws,rfl,g,_⟩:=he;cases ru;obtain⟨its2,_,g1⟩:=isL g;exact⟨.tuple_list q1 g1 hu0,.tuple_list q1 g1 hu0⟩
  | tup es =>
   have he0:=he
   unfold RepD at he
   obtain⟨b,ws,rfl,g,hg⟩:=he
   cases ru
   obtain⟨its2,r2,g1⟩:=isT g
   have hd':depths ds+1<=n:=by simpa [D.depth] using hd
   have l1:=r1.length
   have l2:=r2.length
   have m1:=hq.length
   have m2:=hg.length
   have rc:SeqAt.RcAt A s (.ref a) (.ref b) (eqD (.tup ds) (.tup es)):=by
    have:=SeqAt.RcAt.tuples (e:=p0n ds es) q1 g1 hu0 (j0c I (fun{A} {v} {u} {vv} {uu} {d} {e}=>ih (by omega) (A:=A)) (A:=A.in1) (by rw[h0u];omega) (m:=n - 1) (by omega) r1 r2 hq hg)
    rw[List.size_toArray,List.size_toArray]at this
    unfold eqD
    by_cases hl:ds.length=es.length
    ·have z:(its.length==its2.length)=true:=by rw[beq_iff_eq];omega
     have mm:min its.length its2.length=ds.length:=by omega
     rw[z,Bool.and_true,mm,f0f hl]at this
     exact this
    ·have z:(its.length==its2.length)=false:=by rw[beq_eq_false_iff_ne];omega
     rw[z,Bool.and_false]at this
     rw[d0x hl]
     exact this
   refine⟨rc,?_⟩
   by_cases hab:a=b
   ·subst hab
    rw[m0m I hv0 he0,h0y]
    exact .same _
   ·exact .of_refs hab rc
 | lst ds =>
  have hv0:=hv
  unfold RepD at hv
  obtain⟨a,vs,rfl,q,hq⟩:=hv
  cases rv
  obtain⟨its,r1,q1⟩:=isL q
  cases e with
  | non=>unfold RepD at he;subst he;cases ru;exact⟨.list_none q1 hu0,.list_none q1 hu0⟩
  | bl b=>unfold RepD at he;subst he;cases ru;exact⟨.list_bool _ q1 hu0,.list_bool _ q1 hu0⟩
  | int b=>unfold RepD at he;subst he;obtain⟨t,rfl⟩:=ru;exact⟨.list_int _ _ q1 hu0,.list_int _ _ q1 hu0⟩
  | str b=>unfold RepD at he;subst he;obtain⟨t,rfl⟩:=ru;exact⟨.list_str _ _ q1 hu0,.list_str _ _ q1 hu0⟩
  | tup es=>unfold RepD at he;obtain⟨b,ws,rfl,g,_⟩:=he;cases ru;obtain⟨its2,_,g1⟩:=isT g;exact⟨.list_tuple q1 g1 hu0,.list_tuple q1 g1 hu0⟩
  | lst es =>
   have he0:=he
   unfold RepD at he
   obtain⟨b,ws,rfl,g,hg⟩:=he
   cases ru
   obtain⟨its2,r2,g1⟩:=isL g
   have hd':depths ds+1<=n:=by simpa [D.depth] using hd
   have l1:=r1.length
   have l2:=r2.length
   have m1:=hq.length
   have m2:=hg.length
   have rc:SeqAt.RcAt A s (.ref a) (.ref b) (eqD (.lst ds) (.lst es)):=by
    unfold eqD
    by_cases hl:ds.length=es.length
    ·have:=SeqAt.RcAt.lists (e:=p0n ds es) q1 g1 (by rw[List.size_toArray,List.size_toArray];omega) hu0 (j0c I (fun{A} {v} {u} {vv} {uu} {d} {e}=>ih (by omega) (A:=A)) (A:=A.in1) (by rw[h0u];omega) (m:=n - 1) (by omega) r1 r2 hq hg)
     rw[List.size_toArray,show its.length=ds.length by omega,f0f hl]at this
     exact this
    ·rw[d0x hl]
     exact SeqAt.RcAt.lists_lengths q1 g1 (by rw[List.size_toArray,List.size_toArray,bne_iff_ne];omega) hu0
   refine⟨rc,?_⟩
   by_cases hab:a=b
   ·subst hab
    rw[m0m I hv0 he0,h0y]
    exact .same _
   ·exact .of_refs hab rc
theorem w0c (I:Inv X pins σ H s):∀(n:Nat) {A:Around} {v u:V} {vv uu:Value} {d e:D},d.depth<=n->A.units+n<cLine->RelV v vv->RelV u uu->RepD X.K H v d->RepD X.K H u e ->
  SeqAt.RcAt A s vv uu (eqD d e)/\SeqAt.EqAt A s vv uu (eqD d e):=by
 intro n
 induction n with
 | zero=>exact fun hd hu=>b1u I 0 (fun hlt=>absurd hlt (by omega)) hd hu
 | succ n ih=>exact fun hd hu=>b1u I (n+1) (fun _ A v u vv uu d e h1 h2 h3 h4 h5 h6=>(ih (A:=A) h1 h2 h3 h4 h5 h6).2) hd hu
end
section
variable {X:Cx}(K:PySem.W.Frag)
def rEqD (K:PySem.W.Frag):R2:=fun x y H Q=>∃d e,RepD K H x d/\RepD K H y e/\d.depth<=60/\Q (.bl (eqD d e)) H
def rNeD (K:PySem.W.Frag):R2:=fun x y H Q=>∃d e,RepD K H x d/\RepD K H y e/\d.depth<=60/\Q (.bl (!eqD d e)) H
theorem j0x (hu:X.A.units+64<cLine)(hK:X.K=K:=by rfl):OpR X (compareOp .Eq) (rEqD K):=by
 subst hK
 intro pins s σ H x y v u Q I rx ry h
 obtain⟨d,e,hd,he,hz,q⟩:=h
 exact(w0c I 60 hz (by omega) rx ry hd he).1 X.prog X.w _ _ ⟨.bl _,H,I,rfl,q⟩
theorem g1p {pins:List (Addr×Obj)}{σ:St}{H:Hp}{s:Shared}(I:Inv X pins σ H s){A:Around}{v u:V}{vv uu:Value}{d e:D}(hd:d.depth<=60)(hu:A.units+61<cLine)(rv:RelV v vv)(ru:RelV u uu)(hv:RepD X.K H v d)(he:RepD X.K H u e) :
  SeqAt.RcNeAt A s vv uu (!eqD d e):=by
 have hu0:A.units<cLine:=by omega
 have isL:∀ {a xs},StL H a xs->∃its:List Value,Vals xs its/\s.heap.IsList a its.toArray:=fun q=>by
  obtain⟨its,r,p,_⟩:=I.list q.sq
  exact⟨its,r,p.isList⟩
 have isT:∀ {a xs},StT H a xs->∃its:List Value,Vals xs its/\s.heap.IsTuple a its.toArray:=fun q=>by
  obtain⟨its,r,p,_⟩:=I.tuple q.sq
  exact⟨its,r,p⟩
 cases d with
 | non =>
  unfold RepD at hv;subst hv;cases rv
  cases e with
  | non=>unfold RepD at he;subst he;cases ru;exact .none_none
  | bl b=>unfold RepD at he;subst he;cases ru;exact .none_bool _
  | int b=>unfold RepD at he;subst he;obtain⟨t,rfl⟩:=ru;exact .none_int _ _
  | str b=>unfold RepD at he;subst he;obtain⟨t,rfl⟩:=ru;exact .none_str _ _
  | tup es=>unfold RepD at he;obtain⟨a,vs,rfl,q,_⟩:=he;cases ru;obtain⟨its,_,q⟩:=isT q;exact .none_tuple q hu0
  | lst es=>unfold RepD at he;obtain⟨a,vs,rfl,q,_⟩:=he;cases ru;obtain⟨its,_,q⟩:=isL q;exact .none_list q hu0
 | bl x =>
  unfold RepD at hv;subst hv;cases rv
  cases e with
  | non=>unfold RepD at he;subst he;cases ru;exact .bool_none _
  | bl b=>unfold RepD at he;subst he;cases ru;exact .bool_bool _ _
  | int b=>unfold RepD at he;subst he;obtain⟨t,rfl⟩:=ru;exact .bool_int _ _ _
  | str b=>unfold RepD at he;subst he;obtain⟨t,rfl⟩:=ru;exact .bool_str _ _ _
  | tup es=>unfold RepD at he;obtain⟨a,vs,rfl,q,_⟩:=he;cases ru;obtain⟨its,_,q⟩:=isT q;exact .bool_tuple _ q hu0
  | lst es=>unfold RepD at he;obtain⟨a,vs,rfl,q,_⟩:=he;cases ru;obtain⟨its,_,q⟩:=isL q;exact .bool_list _ q hu0
 | int x =>
  unfold RepD at hv;subst hv;obtain⟨t0,rfl⟩:=rv
  cases e with
  | non=>unfold RepD at he;subst he;cases ru;exact .int_none _ _
  | bl b=>unfold RepD at he;subst he;cases ru;exact .int_bool _ _ _
  | int b=>unfold RepD at he;subst he;obtain⟨t,rfl⟩:=ru;exact .int_int _ _ _ _
  | str b=>unfold RepD at he;subst he;obtain⟨t,rfl⟩:=ru;exact .int_str _ _ _ _
  | tup es=>unfold RepD at he;obtain⟨a,vs,rfl,q,_⟩:=he;cases ru;obtain⟨its,_,q⟩:=isT q;exact .int_tuple _ _ q hu0
  | lst es=>unfold RepD at he;obtain⟨a,vs,rfl,q,_⟩:=he;cases ru;obtain⟨its,_,q⟩:=isL q;exact .int_list _ _ q hu0
 | str x =>
  unfold RepD at hv;subst hv;obtain⟨t0,rfl⟩:=rv
  cases e with
  | non=>unfold RepD at he;subst he;cases ru;exact .str_none _ _
  | bl b=>unfold RepD at he;subst he;cases ru;exact .str_bool _ _ _
  | int b=>unfold RepD at he;subst he;obtain⟨t,rfl⟩:=ru;exact .str_int _ _ _ _
  | str b=>unfold RepD at he;subst he;obtain⟨t,rfl⟩:=ru;exact .str_str _ _ _ _
  | tup es=>unfold RepD at he;obtain⟨a,vs,rfl,q,_⟩:=he;cases ru;obtain⟨its,_,q⟩:=isT q;exact .str_tuple _ _ q hu0
  | lst es=>unfold RepD at he;obtain⟨a,vs,rfl,q,_⟩:=he;cases ru;obtain⟨its,_,q⟩:=isL q;exact .str_list _ _ q hu0
 | tup ds =>
  unfold RepD at hv
  obtain⟨a,vs,rfl,q,hq⟩:=hv
  cases rv
  obtain⟨its,r1,q1⟩:=isT q
  cases e with
  | non=>unfold RepD at he;subst he;cases ru;exact .tuple_none q1 hu0
  | bl b=>unfold RepD at he;subst he;cases ru;exact .tuple_bool _ q1 hu0
  | int b=>unfold RepD at he;subst he;obtain⟨t,rfl⟩:=ru;exact .tuple_int _ _ q1 hu0
  | str b=>unfold RepD at he;subst he;obtain⟨t,rfl⟩:=ru;exact .tuple_str _ _ q1 hu0
  | lst es=>unfold RepD at he;obtain⟨b,ws,rfl,g,_⟩:=he;cases ru;obtain⟨its2,_,g1⟩:=isL g;exact .tuple_list q1 g1 hu0
  | tup es =>
   unfold RepD at he
   obtain⟨b,ws,rfl,g,hg⟩:=he
   cases ru
   obtain⟨its2,r2,g1⟩:=isT g
   have hd':depths ds+1<=60:=by simpa [D.depth] using hd
   have l1:=r1.length
   have l2:=r2.length
   have m1:=hq.length
   have m2:=hg.length
   have:=SeqAt.RcNeAt.tuples (e:=p0n ds es) q1 g1 hu0 (j0c I (fun{A} {v} {u} {vv} {uu} {d} {e} a1 a2 a3 a4 a5 a6=>(w0c I 60 a1 a2 a3 a4 a5 a6).2) (A:=A.in1) (by rw[h0u];omega) (m:=60) (by omega) r1 r2 hq hg)
   rw[List.size_toArray,List.size_toArray]at this
   unfold eqD
   by_cases hl:ds.length=es.length
   ·have z:(its.length==its2.length)=true:=by rw[beq_iff_eq];omega
    have mm:min its.length its2.length=ds.length:=by omega
    rw[z,Bool.and_true,mm,f0f hl]at this
    exact this
   ·have z:(its.length==its2.length)=false:=by rw[beq_eq_false_iff_ne];omega
    rw[z,Bool.and_false]at this
    rw[d0x hl]
    exact this
 | lst ds =>
  unfold RepD at hv
  obtain⟨a,vs,rfl,q,hq⟩:=hv
  cases rv
  obtain⟨its,r1,q1⟩:=isL q
  cases e with
  | non=>unfold RepD at he;subst he;cases ru;exact .list_none q1 hu0
  | bl b=>unfold RepD at he;subst he;cases ru;exact .list_bool _ q1 hu0
  | int b=>unfold RepD at he;subst he;obtain⟨t,rfl⟩:=ru;exact .list_int _ _ q1 hu0
  | str b=>unfold RepD at he;subst he;obtain⟨t,rfl⟩:=ru;exact .list_str _ _ q1 hu0
  | tup es=>unfold RepD at he;obtain⟨b,ws,rfl,g,_⟩:=he;cases ru;obtain⟨its2,_,g1⟩:=isT g;exact .list_tuple q1 g1 hu0
  | lst es =>
   unfold RepD at he
   obtain⟨b,ws,rfl,g,hg⟩:=he
   cases ru
   obtain⟨its2,r2,g1⟩:=isL g
   have hd':depths ds+1<=60:=by simpa [D.depth] using hd
   have l1:=r1.length
   have l2:=r2.length
   have m1:=hq.length
   have m2:=hg.length
   unfold eqD
   by_cases hl:ds.length=es.length
   ·have:=SeqAt.RcNeAt.lists (e:=p0n ds es) q1 g1 (by rw[List.size_toArray,List.size_toArray];omega) hu0 (j0c I (fun{A} {v} {u} {vv} {uu} {d} {e} a1 a2 a3 a4 a5 a6=>(w0c I 60 a1 a2 a3 a4 a5 a6).2) (A:=A.in1) (by rw[h0u];omega) (m:=60) (by omega) r1 r2 hq hg)
    rw[List.size_toArray,show its.length=ds.length by omega,f0f hl]at this
    exact this
   ·rw[d0x hl]
    exact SeqAt.RcNeAt.lists_lengths q1 g1 (by rw[List.size_toArray,List.size_toArray,bne_iff_ne];omega) hu0
theorem o0k (hu:X.A.units+64<cLine)(hK:X.K=K:=by rfl):OpR X (compareOp .NotEq) (rNeD K):=by
 subst hK
 intro pins s σ H x y v u Q I rx ry h
 obtain⟨d,e,hd,he,hz,q⟩:=h
 exact g1p I hz (by omega) rx ry hd he X.prog X.w _ _ ⟨.bl _,H,I,rfl,q⟩
theorem h0e (ns:List Int):∀j,j<=ns.length->preSum (fun i=>ns.getD i 0) j=(ns.take j).sum
 | 0,_=>by simp[preSum]
 | j+1,h=>by
  rw[preSum,h0e ns j (by omega),List.take_add_one,List.sum_append]
  have:ns[j]? = some ns[j]:=List.getElem?_eq_getElem (by omega)
  rw[this,List.getD_eq_getElem?_getD,this]
  simp
theorem j0j {ns:List Int}(h:∀n∈ns,0<=n):∀j,0<=(ns.take j).sum/\(ns.take j).sum<=ns.sum:=by
 induction ns with
 | nil=>intro j;simp
 | cons a r ih =>
  intro j
  have ha:=h a List.mem_cons_self
  have ih':=ih fun n hn=>h n (List.mem_cons_of_mem _ hn)
  have h0:=ih' r.length
  rw[List.take_length]at h0
  cases j with
  | zero=>simp;omega
  | succ j =>
   have:=ih' j
   simp only[List.take_succ_cons,List.sum_cons]
   omega
theorem u0b {ns:List Int}(h:∀n∈ns,0<=n):∀n∈ns,n<=ns.sum:=by
 induction ns with
 | nil=>intro n hn;cases hn
 | cons a r ih =>
  intro n hn
  have ha:=h a List.mem_cons_self
  have hr:∀n∈r,0<=n:=fun n hn=>h n (List.mem_cons_of_mem _ hn)
  have h0:=j0j hr r.length
  rw[List.take_length]at h0
  rw[List.sum_cons]
  rcases List.mem_cons.mp hn with rfl | hn
  ·omega
  ·have:=ih hr n hn
   omega
theorem y0g (hc:X.calm=true)(hK:X.K=K:=by rfl):i0a X (.builtin "sum") (fun xs H Q=>∃(p:Addr) (ns:List Int),xs=[.ref p]/\SqL K H p (ns.map V.int)/\(∀n∈ns,0<=n)/\ns.sum<2^62/\Q (.int ns.sum) H):=by
 subst hK
 intro pins s σ H xs us Q I r h
 obtain⟨p,ns,rfl,hq,h0,hb,q⟩:=h
 obtain⟨u,rfl,ru⟩:=m0d r
 cases ru
 obtain⟨its,rv,pl,hz⟩:=I.list hq
 refine call_sum_walk (wpAny_pyIter_list pl.isList ?_)
 have hne:p≠s.heap.objs.size:=Nat.ne_of_lt (by obtain⟨o,n,e,_⟩:=pl;exact Heap.lt_size e)
 have hl:its.length=ns.length:=by have:=rv.length;rw[List.length_map]at this;omega
 refine⟨s.heap.objs.size,_,_,_,_,_,fun i=>ns.getD i 0,rfl,Walks.list (A:=X.A.in1) (show X.A.in1.handled=none from I.ok.hd hc) s.heap.objs.size p hne its.toArray,⟨⟨_,Heap.get?_push_size _ rfl,rfl,rfl⟩,?_⟩,fun b hb=>?_,fun i v hv=>?_,fun j hj=>?_,fun h' tk t' hk=>?_⟩
 ·exact pl.isList.at fun o e=>Heap.get?_push_of_some _ e
 ·rw[Heap.size_push]
  rcases List.mem_cons.mp hb with rfl | hb
  ·exact Nat.lt_succ_self _
  ·rw[List.mem_singleton.mp hb]
   obtain⟨o,n,e,_⟩:=pl
   exact Nat.lt_succ_of_lt (Heap.lt_size e)
 ·have hv':its[i]? = some v:=by simpa using hv
  have hi:i<its.length:=(List.getElem?_eq_some_iff.mp hv').1
  obtain⟨w,e1,e2⟩:=rv.get (i:=i) (x:=V.int ns[i]) (by rw[List.getElem?_map,List.getElem?_eq_getElem (by omega)];rfl)
  rw[hv']at e1;cases e1
  obtain⟨t,rfl⟩:=e2
  exact⟨t,by show _=Value.int (ns.getD i 0) t;rw[List.getD_eq_getElem?_getD,List.getElem?_eq_getElem (by omega)];rfl⟩
 ·rw[List.size_toArray]at hj
  have m1:ns.getD j 0∈ns:=by
   rw[List.getD_eq_getElem?_getD,List.getElem?_eq_getElem (by omega)]
   exact List.getElem_mem _
  have a1:=h0 _ m1
  have a2:=u0b h0 _ m1
  have a3:=j0j h0 (j+1)
  rw[h0e ns (j+1) (by omega)]
  exact⟨⟨by show _<=ns.getD j 0;omega,by show ns.getD j 0<_;omega⟩,by omega,by omega⟩
 ·rw[List.size_toArray,hl,h0e ns _ (Nat.le_refl _),List.take_length]
  refine⟨.int ns.sum,H,I.kept fun b o e=>?_,⟨_,rfl⟩,q⟩
  refine hk b o (fun z=>?_) (Heap.get?_push_of_some _ e)
  rw[List.mem_singleton.mp z]at e
  exact absurd (Heap.lt_size e) (Nat.lt_irrefl _)
theorem p0s (hc:X.calm=true)(hK:X.K=K:=by rfl):i0a X (.builtin "all") (fun xs H Q=>∃(p:Addr) (bs:List Bool),xs=[.ref p]/\SqL K H p (bs.map V.bl)/\Q (.bl (bs.all id)) H):=by
 subst hK
 intro pins s σ H xs us Q I r h
 obtain⟨p,bs,rfl,hq,q⟩:=h
 obtain⟨u,rfl,ru⟩:=m0d r
 cases ru
 obtain⟨its,rv,pl,hz⟩:=I.list hq
 refine call_all_walk (wpAny_pyIter_list pl.isList ?_)
 have hne:p≠s.heap.objs.size:=Nat.ne_of_lt (by obtain⟨o,n,e,_⟩:=pl;exact Heap.lt_size e)
 have hl:its.length=bs.length:=by have:=rv.length;rw[List.length_map]at this;omega
 refine⟨s.heap.objs.size,_,_,_,_,_,fun i=>bs.getD i true,rfl,Walks.list (A:=X.A.in1) (show X.A.in1.handled=none from I.ok.hd hc) s.heap.objs.size p hne its.toArray,⟨⟨_,Heap.get?_push_size _ rfl,rfl,rfl⟩,?_⟩,fun i v s' Q' E' hv hQ'=>?_,fun h' tk hk=>?_⟩
 ·exact pl.isList.at fun o e=>Heap.get?_push_of_some _ e
 ·have hv':its[i]? = some v:=by simpa using hv
  have hi:i<its.length:=(List.getElem?_eq_some_iff.mp hv').1
  obtain⟨w,e1,e2⟩:=rv.get (i:=i) (x:=V.bl bs[i]) (by rw[List.getElem?_map,List.getElem?_eq_getElem (by omega)];rfl)
  rw[hv']at e1;cases e1
  cases e2
  have hQ2:Q' (bs.getD i true) s':=hQ'
  rw[List.getD_eq_getElem?_getD,List.getElem?_eq_getElem (by omega)]at hQ2
  exact wpAny_truthy_bool hQ2
 ·rw[List.size_toArray,hl]
  have e:((List.range bs.length).all fun i=>bs.getD i true)=bs.all id:=by
   rw[Bool.eq_iff_iff]
   simp only[List.all_eq_true,List.mem_range,id]
   constructor
   ·intro g b hb
    obtain⟨i,hi,rfl⟩:=List.getElem_of_mem hb
    have:=g i hi
    rw[List.getD_eq_getElem?_getD,List.getElem?_eq_getElem hi]at this
    exact this
   ·intro g i hi
    rw[List.getD_eq_getElem?_getD,List.getElem?_eq_getElem hi]
    exact g _ (List.getElem_mem _)
  rw[e]
  refine⟨.bl (bs.all id),H,I.kept fun b o e=>?_,rfl,q⟩
  refine hk b o (fun z=>?_) (Heap.get?_push_of_some _ e)
  rw[List.mem_singleton.mp z]at e
  exact absurd (Heap.lt_size e) (Nat.lt_irrefl _)
end
abbrev a0p (ks:List Nat):List D:=ks.map fun j=>D.int (j:Nat)
theorem l0v:∀ks:List Nat,depths (a0p ks)=0
 | []=>by simp[depths]
 | a::r=>by
  have:=l0v r
  show depths (D.int (a:Nat)::a0p r)=0
  unfold depths
  rw[this]
  simp[D.depth]
section
variable {X:Cx}
theorem d1m {x:Str}{v:V}{pos:Pos}(h:∃u,X.mg x=some u/\RelV v u)(hg:Gl X x)(hd:(x==("__debug__" : Str))=false:=by decide):PE X (.Name x pos) (tC v):=by
 obtain⟨u,hm,r⟩:=h
 exact e0b hg hm r hd
end
structure Net where
 m:Nat
 js:List (Nat×Nat)
 os:List Nat
abbrev b0h (p:Nat×Nat):D:=.tup [.int (p.1:Nat),.int (p.2:Nat)]
def netD (N:Net):D:=.tup [.int (N.m:Nat),.tup (N.js.map b0h),.tup (a0p N.os)]
def i0z (rows:List Nat)(p:Nat×Nat):List Nat:=rows++[rows.getD p.1 0 ^^^ rows.getD p.2 0]
def m0r (m:Nat):List Nat:=(List.range m).map fun k=>1 <<< k
theorem z0h (rows:List Nat)(p:Nat×Nat):(i0z rows p).length=rows.length+1:=by simp[i0z]
theorem a1g (js:List (Nat×Nat)):∀rows:List Nat,(js.foldl i0z rows).length=rows.length+js.length:=by
 induction js with
 | nil=>intro rows;rfl
 | cons p r ih=>intro rows;rw[List.foldl_cons,ih,z0h,List.length_cons];omega
theorem d1s (m:Nat):(m0r m).length=m:=by simp[m0r]
def tyD:D->String
 | .non => "NoneType" | .bl _ => "bool" | .int _ => "int" | .str _ => "str" | .tup _ => "tuple" | .lst _ => "list"
theorem f0g (K:PySem.W.Frag){X:Cx}(hK:X.K=K:=by rfl):i0a X (.builtin "isinstance") (fun xs H Q=>∃x d T b,xs=[x,.ty T]/\RepD K H x d/\isaT (tyD d) T=some b/\Q (.bl b) H):=by
 subst hK
 intro pins s σ H xs us Q I r h
 obtain⟨x,d,T,b,rfl,hd,e,q⟩:=h
 cases r with
 | cons r1 rr =>
  cases rr with
  | cons r2 rr =>
   cases rr
   cases (show _=Value.type T from r2)
   have e':∀ {t:String},tyD d=t->PySem.W.kitOne X.K (.type t) (.type T)=some b:=fun{t} z=>by rw[<- z];exact z0z.trans e
   have fin:∀tk,EP X pins σ Q (.bool b) {s with toks:=tk}:=fun tk=>⟨.bl b,H,I.tok tk,rfl,q⟩
   cases d with
   | non=>unfold RepD at hd;subst hd;exact h0t I r1 .non (e' rfl) fin
   | bl y=>unfold RepD at hd;subst hd;exact h0t I r1 (.bl y) (e' rfl) fin
   | int y=>unfold RepD at hd;subst hd;exact h0t I r1 (.int y) (e' rfl) fin
   | str y=>unfold RepD at hd;subst hd;exact h0t I r1 (.str y) (e' rfl) fin
   | tup ds =>
    unfold RepD at hd
    obtain⟨a,vs,rfl,hq,_⟩:=hd
    cases r1
    obtain⟨its,_,⟨o,h1,h2,_⟩,_⟩:=I.tuple hq.sq
    exact PySem.W.kia_one PySem.W.kitx_tuple I.kIn ⟨o,h1,h2⟩ (e' rfl) (fun z=>nomatch z) fin
   | lst ds =>
    unfold RepD at hd
    obtain⟨a,vs,rfl,hq,_⟩:=hd
    cases r1
    obtain⟨its,_,⟨o,n,h1,h2,_⟩,_⟩:=I.list (StL.sq hq)
    exact PySem.W.kia_one PySem.W.kitx_list I.kIn ⟨o,h1,h2⟩ (e' rfl) (fun z=>nomatch z) fin
inductive Sv where
 | un | vl (d:D) | ow (ds:List D) | tp (n:Nat) | dk (kvs:List (Key×D)) | dt (kvs:List (List Key×D)) | ex (C:Addr) (fs:Option (List (Str×D))) | sc (ns:List Int) | px (d:D) (C:Addr) (fs:Option (List (Str×D))) | xl (es:List (Addr×Option (List (Str×D))))
def Sv.own:Sv->Bool
 | .ow _=>true
 | .tp _=>true
 | .dk _=>true
 | .dt _=>true
 | _=>false
abbrev En:=List Sv
inductive R where
 | d (d:D) | o (i:Nat) | n (s:Sv) | t (n:String) | x (s:Sv)
abbrev R.f (ds:List D):R:=.n (.ow ds)
def gt:En->Nat->Sv
 | [],_=>.un
 | s::_,0=>s
 | _::r,n+1=>gt r n
def pt:En->Nat->Sv->En
 | [],_,_=>[]
 | _::r,0,s=>s::r
 | x::r,n+1,s=>x::pt r n s
theorem g0d:∀(ρ:En) (i:Nat) (s:Sv),(pt ρ i s).length=ρ.length
 | [],_,_=>rfl
 | _::_,0,_=>rfl
 | x::r,n+1,s=>by simp[pt,g0d r n s]
theorem b0z:∀(ρ:En) (i j:Nat) (s:Sv),i≠j->gt (pt ρ i s) j=gt ρ j
 | [],_,_,_,_=>rfl
 | _::_,0,0,_,h=>absurd rfl h
 | _::_,0,j+1,_,_=>rfl
 | x::r,i+1,0,s,_=>rfl
 | x::r,i+1,j+1,s,h=>b0z r i j s (by omega)
theorem k0z:∀(ρ:En) (i:Nat) (s:Sv),i<ρ.length->gt (pt ρ i s) i=s
 | [],_,_,h=>by simp at h
 | _::_,0,_,_=>rfl
 | x::r,i+1,s,h=>k0z r i s (by simpa using h)
theorem l0t:∀(ρ:En) (i:Nat),ρ.length<=i->gt ρ i = .un
 | [],_,_=>rfl
 | x::r,0,h=>by simp at h
 | x::r,i+1,h=>l0t r i (by simpa using h)
theorem j0v {ρ:En}{i:Nat}(h:(gt ρ i).own=true):i<ρ.length:=by
 rcases Nat.lt_or_ge i ρ.length with q | q
 ·exact q
 ·rw[l0t ρ i q]at h;cases h
def b0o (σ:St)(ρ:En)(a:Addr):Prop:=∃i,(gt ρ i).own=true/\σ[i]? = some (some (.ref a))
open Classical in
noncomputable def hid (H:Hp)(S:Addr->Prop):Hp:=fun a=>if S a then none else H a
theorem f0p {H:Hp}{S:Addr->Prop}{a:Addr}{o:HO}:hid H S a=some o↔¬S a/\H a=some o:=by
 unfold hid
 split
 ·rename_i h;simp[h]
 ·rename_i h;simp[h]
theorem f0e {H:Hp}{S:Addr->Prop}{a:Addr}{o:HO}(h:¬S a)(e:H a=some o):hid H S a=some o:=f0p.mpr ⟨h,e⟩
theorem b0f {H H':Hp}{S S':Addr->Prop}(h:∀a o,H a=some o->¬S a->H' a=some o/\¬S' a):Same (hid H S) (hid H' S'):=fun a o e=>by
 obtain⟨n,e⟩:=f0p.mp e
 obtain⟨e',n'⟩:=h a o e n
 exact f0e n' e'
theorem c0i {H:Hp}{S:Addr->Prop}:Same (hid H S) H:=fun a o e=>(f0p.mp e).2
structure Fr where
 H0:Hp
 Z:Addr->Prop
 M:Addr->Prop
 I:Nat->Addr->Prop
 P:Nat->Addr->Prop
def Fr.pin (F:Fr)(i:Nat)(a:Addr):Prop:=F.I i a∨F.P i a
def hs (F:Fr)(σ:St)(ρ:En):Addr->Prop:=fun a=>F.Z a∨b0o σ ρ a
def exP (e C:Addr)(od:Option Addr):Heap->Prop:=fun h=>∃oe vs,h.get? e=some oe/\oe.cls = .ref C/\oe.dict=od/\oe.data = .fields vs
def exD (K:PySem.W.Frag)(Hh:Hp):Option (List (Str×D))->Option Addr->Prop
 | none,none=>True
 | some fs,some dx=>∃ks,Hh dx=some (.xd ks)/\ks.map Prod.fst=fs.map Prod.fst/\RepDs K Hh (ks.map Prod.snd) (fs.map Prod.snd)
 | _,_=>False
theorem exD.same {K:PySem.W.Frag}{Hh Hh':Hp}:∀ {fs:Option (List (Str×D))} {od:Option Addr},exD K Hh fs od->Same Hh Hh'->exD K Hh' fs od
 | none,none,h,_=>h
 | some fs,some dx,⟨ks,h1,h2,h3⟩,g=>⟨ks,g _ _ h1,h2,h3.same g⟩
 | none,some _,h,_=>h.elim
 | some _,none,h,_=>h.elim
def Exs (K:PySem.W.Frag)(Hh:Hp):List V->List (Addr×Option (List (Str×D)))->Prop
 | [],[]=>True
 | x::vs,c::es=>(∃e od,x = .ref e/\Hh e=some (.ext (exP e c.1 od))/\exD K Hh c.2 od)/\Exs K Hh vs es
 | _,_=>False
theorem Exs.same {K:PySem.W.Frag}{Hh Hh':Hp}:∀ {vs:List V} {es:List (Addr×Option (List (Str×D)))},Exs K Hh vs es->Same Hh Hh'->Exs K Hh' vs es
 | [],[],h,_=>h
 | x::vs,c::es,⟨⟨e,od,h1,h2,h3⟩,h4⟩,g=>⟨⟨e,od,h1,g _ _ h2,h3.same g⟩,Exs.same h4 g⟩
 | [],_::_,h,_=>h.elim
 | _::_,[],h,_=>h.elim
def SvOk (K:PySem.W.Frag)(Hh H:Hp)(v:Option (Option V)):Sv->Prop
 | .xl es=>∃l vs,v=some (some (.ref l))/\Hh l=some (.lst vs)/\Exs K Hh vs es
 | .px d C fs=>∃p x e od,v=some (some (.ref p))/\Hh p=some (.tup [x,.ref e])/\RepD K Hh x d/\Hh e=some (.ext (exP e C od))/\exD K Hh fs od
 | .sc ns=>∃c,v=some (some (.ref c))/\SqL K Hh c (List.map V.int ns)
 | .ex C fs=>∃e od,v=some (some (.ref e))/\Hh e=some (.ext (exP e C od))/\exD K Hh fs od
 | .un=>True
 | .vl d=>∃x,v=some (some x)/\RepD K Hh x d
 | .ow ds=>∃l vs,v=some (some (.ref l))/\H l=some (.lst vs)/\RepDs K Hh vs ds
 | .tp n=>∃t c ns sp lf,v=some (some (.ref t))/\H t=some (.dK (c0t c sp lf))/\SqL K Hh c (List.map V.int ns)/\0<=sp/\sp<=n/\0<=lf
 | .dk kvs=>∃t ks,v=some (some (.ref t))/\H t=some (.dK ks)/\ks.map Prod.fst=kvs.map Prod.fst/\RepDs K Hh (ks.map Prod.snd) (kvs.map Prod.snd)
 | .dt kvs=>∃t ks,v=some (some (.ref t))/\H t=some (.dT ks)/\ks.map Prod.fst=kvs.map Prod.fst/\RepDs K Hh (ks.map Prod.snd) (kvs.map Prod.snd)
theorem SvOk.keep {K:PySem.W.Frag}{Hh Hh' H H':Hp}{v:Option (Option V)}{s:Sv}(h:SvOk K Hh H v s)(g:Same Hh Hh')(k:∀l o,s.own=true->v=some (some (.ref l))->H l=some o->H' l=some o):SvOk K Hh' H' v s:=by
 cases s with
 | un=>trivial
 | vl d=>obtain⟨x,e,r⟩:=h;exact⟨x,e,r.same g⟩
 | ow ds=>obtain⟨l,vs,e,a,r⟩:=h;exact⟨l,vs,e,k _ _ rfl e a,r.same g⟩
 | tp n=>obtain⟨t,c,ns,sp,lf,e,a,b,r⟩:=h;exact⟨t,c,ns,sp,lf,e,k _ _ rfl e a,g.seq b,r⟩
 | dk kvs=>obtain⟨t,ks,e,a,b,r⟩:=h;exact⟨t,ks,e,k _ _ rfl e a,b,r.same g⟩
 | dt kvs=>obtain⟨t,ks,e,a,b,r⟩:=h;exact⟨t,ks,e,k _ _ rfl e a,b,r.same g⟩
 | ex C fs=>obtain⟨t,od,e,a,b⟩:=h;exact⟨t,od,e,g _ _ a,b.same g⟩
 | sc ns=>obtain⟨c,e,a⟩:=h;exact⟨c,e,g.seq a⟩
 | px d C fs=>obtain⟨p,x,e,od,a,b,c,d',e'⟩:=h;exact⟨p,x,e,od,a,g _ _ b,c.same g,g _ _ d',e'.same g⟩
 | xl es=>obtain⟨p,vs,a,b,c⟩:=h;exact⟨p,vs,a,g _ _ b,c.same g⟩
theorem SvOk.alive {K:PySem.W.Frag}{Hh H:Hp}{v:Option (Option V)}{s:Sv}(h:SvOk K Hh H v s)(ho:s.own=true):∃l o,v=some (some (.ref l))/\H l=some o:=by
 cases s with
 | un=>cases ho
 | vl d=>cases ho
 | ow ds=>obtain⟨l,vs,e,a,r⟩:=h;exact⟨l,_,e,a⟩
 | tp n=>obtain⟨t,c,ns,sp,lf,e,a,b,r⟩:=h;exact⟨t,_,e,a⟩
 | dk kvs=>obtain⟨t,ks,e,a,b,r⟩:=h;exact⟨t,_,e,a⟩
 | dt kvs=>obtain⟨t,ks,e,a,b,r⟩:=h;exact⟨t,_,e,a⟩
 | ex C fs=>cases ho
 | sc ns=>cases ho
 | px d C fs=>cases ho
 | xl es=>cases ho
def Nt (H:Hp)(a:Addr):Prop:=H a≠none/\∀xs,H a≠some (.tup xs)
theorem b1z {H:Hp}{a l:Addr}{o:HO}(al:a≠l)(h:Nt H a):Nt (upd H l o) a:=by unfold Nt;rw[a0o al];exact h
structure Rel (K:PySem.W.Frag)(F:Fr)(σ:St)(ρ:En)(H:Hp):Prop where
 len:σ.length=ρ.length
 fr:∀a o,F.H0 a=some o->¬F.M a->H a=some o
 zl:∀a,F.Z a->Nt H a
 zo:∀a,b0o σ ρ a->¬F.Z a
 ow:∀i a,(gt ρ i).own=true->σ[i]? = some (some (.ref a))->(F.I i a/\F.M a)∨F.H0 a=none
 mi:∀i a,F.pin i a->σ[i]? = some (some (.ref a))
 ml:∀a,F.M a->F.H0 a≠none
 ma:∀a,F.M a->H a≠none
 nd:∀i j a,(gt ρ i).own=true->(gt ρ j).own=true->σ[i]? = some (some (.ref a))->σ[j]? = some (some (.ref a))->i=j
 sl:∀i,SvOk K (hid H (hs F σ ρ)) H σ[i]? (gt ρ i)
structure Kp (σ:St)(ρ ρ':En)(H H':Hp):Prop where
 st:∀a o,H a=some o->¬b0o σ ρ a->H' a=some o
 sb:∀i,(gt ρ' i).own=true->(gt ρ i).own=true
theorem Kp.so {σ:St}{ρ ρ':En}{H H':Hp}(k:Kp σ ρ ρ' H H'){a:Addr}(h:b0o σ ρ' a):b0o σ ρ a:=by
 obtain⟨i,hi,e⟩:=h
 exact⟨i,k.sb i hi,e⟩
theorem Kp.refl {σ:St}{ρ:En}{H:Hp}:Kp σ ρ ρ H H:=⟨fun _ _ e _=>e,fun _ h=>h⟩
theorem Kp.trans {σ:St}{ρ ρ1 ρ2:En}{H H1 H2:Hp}(a:Kp σ ρ ρ1 H H1)(b:Kp σ ρ1 ρ2 H1 H2):Kp σ ρ ρ2 H H2 :=
 ⟨fun x o e n=>b.st x o (a.st x o e n) fun z=>n (a.so z),fun x z=>a.sb x (b.sb x z)⟩
theorem Kp.fresh {σ:St}{ρ:En}{H:Hp}{l:Addr}{o:HO}(h:H l=none):Kp σ ρ ρ H (upd H l o) :=
 ⟨fun a u e _=>by rw[a0o (b0b e h)];exact e,fun _ h=>h⟩
section
variable {K:PySem.W.Frag}{F:Fr}{σ:St}{ρ ρ':En}{H H':Hp}
theorem e0s (r:Rel K F σ ρ H){a:Addr}(h:b0o σ ρ a):H a≠none:=by
 obtain⟨i,hi,e⟩:=h
 obtain⟨l,o,e',h'⟩:=(r.sl i).alive hi
 rw[e]at e';injection e' with e';injection e' with e';injection e' with e'
 rw[e',h'];exact fun z=>nomatch z
theorem a1b (r:Rel K F σ ρ H){a:Addr}(h:hs F σ ρ a):H a≠none:=by
 rcases h with h | h
 ·exact(r.zl a h).1
 ·exact e0s r h
theorem SvOk.nt {K:PySem.W.Frag}{Hh H:Hp}{v:Option (Option V)}{s:Sv}(h:SvOk K Hh H v s)(ho:s.own=true):∃l,v=some (some (.ref l))/\Nt H l:=by
 cases s with
 | un=>cases ho
 | vl d=>cases ho
 | ow ds=>obtain⟨l,vs,e,a,r⟩:=h;exact⟨l,e,by rw[a];exact(fun z=>nomatch z),by rw[a];exact fun _ z=>nomatch z⟩
 | tp n=>obtain⟨l,c,ns,sp,lf,e,a,b,r⟩:=h;exact⟨l,e,by rw[a];exact(fun z=>nomatch z),by rw[a];exact fun _ z=>nomatch z⟩
 | dk kvs=>obtain⟨l,ks,e,a,b,r⟩:=h;exact⟨l,e,by rw[a];exact(fun z=>nomatch z),by rw[a];exact fun _ z=>nomatch z⟩
 | dt kvs=>obtain⟨l,ks,e,a,b,r⟩:=h;exact⟨l,e,by rw[a];exact(fun z=>nomatch z),by rw[a];exact fun _ z=>nomatch z⟩
 | ex C fs=>cases ho
 | sc ns=>cases ho
 | px d C fs=>cases ho
 | xl es=>cases ho
theorem s0k (r:Rel K F σ ρ H){a:Addr}(h:b0o σ ρ a):Nt H a:=by
 obtain⟨i,hi,e⟩:=h
 obtain⟨l,e',h'⟩:=(r.sl i).nt hi
 rw[e]at e';injection e' with e';injection e' with e';injection e' with e'
 rw[e'];exact h'
theorem x0g (r:Rel K F σ ρ H){a:Addr}(h:hs F σ ρ a):Nt H a:=by
 rcases h with h | h
 ·exact r.zl a h
 ·exact s0k r h
theorem h0w (r:Rel K F σ ρ H){l:Addr}(h:H l=none):¬hs F σ ρ l:=fun z=>a1b r z h
theorem a1f (r:Rel K F σ ρ H){l:Addr}(h:H l=none):F.H0 l=none:=by
 cases h0:F.H0 l with
 | none=>rfl
 | some o =>
  by_cases q:F.M l
  ·exact absurd h (r.ma l q)
  ·have:=r.fr l o h0 q
   rw[h]at this;cases this
theorem Kp.vis (k:Kp σ ρ ρ' H H'):Same (hid H (hs F σ ρ)) (hid H' (hs F σ ρ')):=b0f fun a o e n =>
 ⟨k.st a o e fun z=>n (.inr z),fun z=>by
  rcases z with z | z
  ·exact n (.inl z)
  ·exact n (.inr (k.so z))⟩
theorem u0m {a:Addr}(g:Same H H')(h:H a≠none):H' a≠none:=fun e=>by
 cases h':H a with
 | none=>exact h h'
 | some o=>rw[g a o h']at e;cases e
theorem e1l {a:Addr}(g:Same H H')(h:Nt H a):Nt H' a:=by
 cases h':H a with
 | none=>exact(h.1 h').elim
 | some o =>
  have e:=g a o h'
  unfold Nt
  rw[e,<- h'];exact h
theorem Rel.grow (r:Rel K F σ ρ H)(g:Same H H'):Rel K F σ ρ H' where
 len:=r.len
 fr:=fun a o e n=>g a o (r.fr a o e n)
 zl:=fun a z=>e1l g (r.zl a z)
 zo:=r.zo
 ow:=r.ow
 mi:=r.mi
 ml:=r.ml
 ma:=fun a z=>u0m g (r.ma a z)
 nd:=r.nd
 sl:=fun i=>(r.sl i).keep (b0f fun a o e n=>⟨g a o e,n⟩) fun l o _ _ e=>g l o e
theorem Rel.fresh (r:Rel K F σ ρ H){l:Addr}{o:HO}(h:H l=none):Rel K F σ ρ (upd H l o):=r.grow ((Same.refl H).new h)
theorem s0f:∀(ρ:En) (i:Nat) (s:Sv),ρ.length<=i->pt ρ i s=ρ
 | [],_,_,_=>rfl
 | x::r,0,s,h=>by simp at h
 | x::r,i+1,s,h=>by simp[pt,s0f r i s (by simpa using h)]
theorem e0d {i j:Nat}{s:Sv}(hs:s.own=false)(hj:(gt (pt ρ i s) j).own=true):i≠j/\(gt ρ j).own=true:=by
 by_cases ij:i=j
 ·subst ij
  rcases Nat.lt_or_ge i ρ.length with q | q
  ·rw[k0z ρ i s q,hs]at hj;cases hj
  ·rw[l0t _ i (by rw[g0d];exact q)]at hj;cases hj
 ·rw[b0z ρ i j s ij]at hj
  exact⟨ij,hj⟩
theorem Rel.setS (r:Rel K F σ ρ H){i:Nat}{v:V}{s:Sv}(hs':s.own=false)(hd:SvOk K (hid H (hs F σ ρ)) H (some (some v)) s)(hm:∀a,¬F.pin i a):Rel K F (σ.set i (some v)) (pt ρ i s) H:=by
 rcases Nat.lt_or_ge i ρ.length with hi | hi
 case inr =>
  rw[s0f ρ i s hi,List.set_eq_of_length_le (by rw[r.len];exact hi)];exact r
 have sub:∀a,b0o (σ.set i (some v)) (pt ρ i s) a->b0o σ ρ a:=fun a ⟨j,hj,e⟩=>by
  obtain⟨ij,hj⟩:=e0d hs' hj
  rw[List.getElem?_set_ne ij]at e
  exact⟨j,hj,e⟩
 have vis:Same (hid H (hs F σ ρ)) (hid H (hs F (σ.set i (some v)) (pt ρ i s))):=b0f fun a o e n=>⟨e,fun z=>n (z.imp id (sub a))⟩
 refine⟨by rw[List.length_set,g0d,r.len],r.fr,r.zl,fun a h=>r.zo a (sub a h),fun j a hj e=>?_,fun j a h=>?_,r.ml,r.ma,fun j k a hj hk ej ek=>?_,fun j=>?_⟩
 ·obtain⟨ij,hj⟩:=e0d hs' hj
  rw[List.getElem?_set_ne ij]at e
  exact r.ow j a hj e
 ·have:i≠j:=fun e=>hm a (e▸h)
  rw[List.getElem?_set_ne this];exact r.mi j a h
 ·obtain⟨nj,hj⟩:=e0d hs' hj
  obtain⟨nk,hk⟩:=e0d hs' hk
  rw[List.getElem?_set_ne nj]at ej
  rw[List.getElem?_set_ne nk]at ek
  exact r.nd j k a hj hk ej ek
 ·by_cases ij:i=j
  ·subst ij
   rw[k0z ρ i _ hi,List.getElem?_set_self (by rw[r.len];exact hi)]
   exact hd.keep vis fun l o ho=>by rw[hs']at ho;cases ho
  ·rw[b0z ρ i j _ ij,List.getElem?_set_ne ij]
   exact(r.sl j).keep vis fun l o _ _ e=>e
theorem Rel.set (r:Rel K F σ ρ H){i:Nat}{v:V}{d:D}(hd:RepD K (hid H (hs F σ ρ)) v d)(hm:∀a,¬F.pin i a):Rel K F (σ.set i (some v)) (pt ρ i (.vl d)) H :=
 r.setS rfl ⟨v,rfl,hd⟩ hm
theorem Rel.setF (r:Rel K F σ ρ H){i:Nat}{l:Addr}{o:HO}{s:Sv}(hs':s.own=true)(hd:SvOk K (hid H (hs F σ ρ)) (upd H l o) (some (some (.ref l))) s)(hn:H l=none)(hm:∀a,¬F.pin i a) :
  Rel K F (σ.set i (some (.ref l))) (pt ρ i s) (upd H l o):=by
 have rf:=r.fresh (o:=o) hn
 rcases Nat.lt_or_ge i ρ.length with hi | hi
 case inr =>
  rw[s0f ρ i s hi,List.set_eq_of_length_le (by rw[r.len];exact hi)];exact rf
 have at1:∀ {a},(σ.set i (some (V.ref l)))[i]? = some (some (.ref a))->a=l:=fun e=>by
  rw[List.getElem?_set_self (by rw[r.len];exact hi)]at e
  injection e with e;injection e with e;injection e with e
  exact e.symm
 have sub:∀a,b0o (σ.set i (some (.ref l))) (pt ρ i s) a->b0o σ ρ a∨a=l:=fun a h=>by
  obtain⟨j,hj,e⟩:=h
  by_cases ij:i=j
  ·subst ij;exact .inr (at1 e)
  ·rw[b0z ρ i j _ ij]at hj
   rw[List.getElem?_set_ne ij]at e
   exact .inl ⟨j,hj,e⟩
 have vis:Same (hid H (hs F σ ρ)) (hid (upd H l o) (hs F (σ.set i (some (.ref l))) (pt ρ i s))):=b0f fun a u e n=>by
  have al:=b0b e hn
  refine⟨by rw[a0o al];exact e,fun z=>?_⟩
  rcases z with z | z
  ·exact n (.inl z)
  ·rcases sub a z with z | z
   ·exact n (.inr z)
   ·exact al z
 have nol:∀j,(gt ρ j).own=true->σ[j]? ≠ some (some (.ref l)):=fun j hj e=>e0s r ⟨j,hj,e⟩ hn
 refine⟨by rw[List.length_set,g0d,r.len],rf.fr,rf.zl,fun a h=>?_,fun j a hj e=>?_,fun j a h=>?_,r.ml,rf.ma,fun j k a hj hk ej ek=>?_,fun j=>?_⟩
 ·rcases sub a h with h | h
  ·exact r.zo a h
  ·subst h;exact fun z=>(r.zl _ z).1 hn
 ·by_cases ij:i=j
  ·subst ij
   rw[at1 e];exact .inr (a1f r hn)
  ·rw[b0z ρ i j _ ij]at hj
   rw[List.getElem?_set_ne ij]at e
   exact r.ow j a hj e
 ·have:i≠j:=fun e=>hm a (e▸h)
  rw[List.getElem?_set_ne this];exact r.mi j a h
 ·by_cases nj:i=j
  ·by_cases nk:i=k
   ·omega
   ·subst nj
    have:=at1 ej
    subst this
    rw[b0z ρ i k _ nk]at hk
    rw[List.getElem?_set_ne nk]at ek
    exact absurd ek (nol k hk)
  ·rw[b0z ρ i j _ nj]at hj
   rw[List.getElem?_set_ne nj]at ej
   by_cases nk:i=k
   ·subst nk
    have:=at1 ek
    subst this
    exact absurd ej (nol j hj)
   ·rw[b0z ρ i k _ nk]at hk
    rw[List.getElem?_set_ne nk]at ek
    exact r.nd j k a hj hk ej ek
 ·by_cases ij:i=j
  ·subst ij
   rw[k0z ρ i _ hi,List.getElem?_set_self (by rw[r.len];exact hi)]
   exact hd.keep vis fun _ _ _ _ e=>e
  ·rw[b0z ρ i j _ ij,List.getElem?_set_ne ij]
   exact(r.sl j).keep vis fun a o ho e h=>by
    rw[a0o (b0b h hn)];exact h
theorem Rel.write (r:Rel K F σ ρ H){i:Nat}{l:Addr}{o:HO}{s:Sv}(hi:(gt ρ i).own=true)(el:σ[i]? = some (some (.ref l)))(hs':s.own=true)(new:SvOk K (hid H (hs F σ ρ)) (upd H l o) (some (some (.ref l))) s):Rel K F σ (pt ρ i s) (upd H l o)/\Kp σ ρ (pt ρ i s) H (upd H l o):=by
 have lt:=j0v hi
 have own':∀j,(gt (pt ρ i s) j).own=true->(gt ρ j).own=true:=fun j h=>by
  by_cases ij:i=j
  ·subst ij;exact hi
  ·rw[b0z ρ i j _ ij]at h;exact h
 have sub:∀a,b0o σ (pt ρ i s) a->b0o σ ρ a:=fun a ⟨j,hj,e⟩=>⟨j,own' j hj,e⟩
 have hso:b0o σ ρ l:=⟨i,hi,el⟩
 have vis:Same (hid H (hs F σ ρ)) (hid (upd H l o) (hs F σ (pt ρ i s))):=b0f fun a u e n=>by
  have al:a≠l:=fun z=>n (.inr (z▸hso))
  exact⟨by rw[a0o al];exact e,fun z=>n (z.imp id (sub a))⟩
 have up:∀ {a},H a≠none->(upd H l o) a≠none:=fun{a} h e=>by
  by_cases al:a=l
  ·subst al;rw[a0y]at e;cases e
  ·rw[a0o al]at e;exact h e
 refine⟨⟨by rw[g0d,r.len],fun a u e n=>?_,fun a z=>b1z (fun q=>r.zo l hso (q▸z)) (r.zl a z),fun a h=>r.zo a (sub a h),fun j a hj e=>r.ow j a (own' j hj) e,r.mi,r.ml,fun a z=>up (r.ma a z),fun j k a hj hk ej ek=>r.nd j k a (own' j hj) (own' k hk) ej ek,fun j=>?_⟩,⟨fun a u e n=>?_,own'⟩⟩
 ·have al:a≠l:=fun z=>by
   subst z
   rcases r.ow i _ hi el with⟨_,q⟩ | q
   ·exact n q
   ·rw[e]at q;cases q
  rw[a0o al];exact r.fr a u e n
 ·by_cases ij:i=j
  ·subst ij
   rw[k0z ρ i s lt,el]
   exact new.keep vis fun _ _ _ _ e=>e
  ·rw[b0z ρ i j _ ij]
   refine(r.sl j).keep vis fun a u ho e h=>?_
   have al:a≠l:=fun z=>ij (r.nd i j l hi ho el (z▸e))
   rw[a0o al];exact h
 ·have al:a≠l:=fun z=>n (z▸hso)
  rw[a0o al];exact e
theorem Rel.frz (r:Rel K F σ ρ H){i:Nat}{ds:List D}(hi:gt ρ i = .ow ds):∃l,σ[i]? = some (some (.ref l))/\Rel K F σ (pt ρ i (.vl (.lst ds))) H/\Kp σ ρ (pt ρ i (.vl (.lst ds))) H H/\RepD K (hid H (hs F σ (pt ρ i (.vl (.lst ds))))) (.ref l) (.lst ds):=by
 have ho:(gt ρ i).own=true:=by rw[hi];rfl
 have lt:=j0v ho
 have q:=r.sl i
 rw[hi]at q
 obtain⟨l,vs,el,hl,hd⟩:=q
 have own':∀j,(gt (pt ρ i (.vl (.lst ds))) j).own=true->i≠j/\(gt ρ j).own=true:=fun j h=>e0d rfl h
 have sub:∀a,b0o σ (pt ρ i (.vl (.lst ds))) a->b0o σ ρ a/\a≠l:=fun a ⟨j,hj,e⟩=>by
  obtain⟨ij,hj⟩:=own' j hj
  exact⟨⟨j,hj,e⟩,fun z=>ij (r.nd i j l ho hj el (z▸e))⟩
 have vis:Same (hid H (hs F σ ρ)) (hid H (hs F σ (pt ρ i (.vl (.lst ds))))):=b0f fun a u e n=>⟨e,fun z=>n (z.imp id fun z=>(sub a z).1)⟩
 have vl:¬hs F σ (pt ρ i (.vl (.lst ds))) l:=fun z=>by
  rcases z with z | z
  ·exact r.zo l ⟨i,ho,el⟩ z
  ·exact(sub l z).2 rfl
 have rd:RepD K (hid H (hs F σ (pt ρ i (.vl (.lst ds))))) (.ref l) (.lst ds):=by
  unfold RepD
  exact⟨l,vs,rfl,f0e vl hl,hd.same vis⟩
 refine⟨l,el,⟨by rw[g0d,r.len],r.fr,r.zl,fun a h=>r.zo a (sub a h).1,fun j a hj e=>r.ow j a (own' j hj).2 e,r.mi,r.ml,r.ma,fun j k a hj hk ej ek=>r.nd j k a (own' j hj).2 (own' k hk).2 ej ek,fun j=>?_⟩,⟨fun _ _ e _=>e,fun j h=>(own' j h).2⟩,rd⟩
 by_cases ij:i=j
 ·subst ij
  rw[k0z ρ i _ lt,el]
  exact⟨_,rfl,rd⟩
 ·rw[b0z ρ i j _ ij]
  exact(r.sl j).keep vis fun a u _ _ h=>h
end
def RelR (K:PySem.W.Frag)(F:Fr)(σ:St)(ρ:En)(v:V)(H:Hp):R->Prop
 | .d d=>Rel K F σ ρ H/\RepD K (hid H (hs F σ ρ)) v d
 | .o i=>Rel K F σ ρ H/\σ[i]? = some (some v)
 | .n s=>∃Hb l o,Rel K F σ ρ Hb/\s.own=true/\SvOk K (hid Hb (hs F σ ρ)) (upd Hb l o) (some (some (.ref l))) s/\Hb l=none/\H=upd Hb l o/\v = .ref l
 | .t n=>Rel K F σ ρ H/\v = .ty n
 | .x s=>Rel K F σ ρ H/\s.own=false/\SvOk K (hid H (hs F σ ρ)) H (some (some v)) s
def Out (K:PySem.W.Frag)(F:Fr)(σ:St)(ρ:En)(H:Hp)(ρ':En)(v:V)(H':Hp):R->Prop
 | .d d=>Rel K F σ ρ' H'/\Kp σ ρ ρ' H H'/\RepD K (hid H' (hs F σ ρ')) v d
 | .o i=>Rel K F σ ρ' H'/\Kp σ ρ ρ' H H'/\σ[i]? = some (some v)
 | .n s=>∃Hb l o,Rel K F σ ρ' Hb/\Kp σ ρ ρ' H Hb/\s.own=true/\SvOk K (hid Hb (hs F σ ρ')) (upd Hb l o) (some (some (.ref l))) s/\Hb l=none/\H'=upd Hb l o/\v = .ref l
 | .t n=>Rel K F σ ρ' H'/\Kp σ ρ ρ' H H'/\v = .ty n
 | .x s=>Rel K F σ ρ' H'/\Kp σ ρ ρ' H H'/\s.own=false/\SvOk K (hid H' (hs F σ ρ')) H' (some (some v)) s
def InF (K:PySem.W.Frag)(F:Fr)(σ:St)(ρ:En)(H:Hp)(v:V):R->Prop
 | .d d=>RepD K (hid H (hs F σ ρ)) v d
 | .o i=>σ[i]? = some (some v)
 | .n _=>True
 | .t n=>v = .ty n
 | .x s=>s.own=false/\SvOk K (hid H (hs F σ ρ)) H (some (some v)) s
def R.frz:R->R
 | .n (.ow ds)=>.d (.lst ds)
 | r=>r
inductive InFs (K:PySem.W.Frag) (F:Fr) (σ:St) (ρ:En) (H:Hp):List V->List R->Prop
 | nil:InFs K F σ ρ H [] []
 | cons {v:V} {r:R} {vs:List V} {rs:List R}:InF K F σ ρ H v r->InFs K F σ ρ H vs rs->InFs K F σ ρ H (v::vs) (r::rs)
def view (ρ:En):R->Option D
 | .d d=>some d
 | .o i=>(match gt ρ i with | .ow ds=>some (.lst ds) | .vl d=>some d | _=>none)
 | _=>none
section
variable {K:PySem.W.Frag}{F:Fr}{σ:St}{ρ ρ':En}{H H':Hp}{v:V}{r:R}
theorem InF.keep (h:InF K F σ ρ H v r)(k:Kp σ ρ ρ' H H'):InF K F σ ρ' H' v r:=by
 cases r with
 | d d=>exact RepD.same h k.vis
 | o i=>exact h
 | n s=>exact h
 | t n=>exact h
 | x s=>exact⟨h.1,h.2.keep k.vis fun l o ho=>by rw[h.1]at ho;cases ho⟩
theorem InFs.keep {vs:List V}{rs:List R}(h:InFs K F σ ρ H vs rs)(k:Kp σ ρ ρ' H H'):InFs K F σ ρ' H' vs rs:=by
 induction h with
 | nil=>exact .nil
 | cons a _ ih=>exact .cons (a.keep k) ih
theorem Out.inF (h:Out K F σ ρ H ρ' v H' r):Rel K F σ ρ' H'/\Kp σ ρ ρ' H H'/\InF K F σ ρ' H' v r.frz:=by
 cases r with
 | d d=>exact⟨h.1,h.2.1,h.2.2⟩
 | o i=>exact⟨h.1,h.2.1,h.2.2⟩
 | t n=>exact⟨h.1,h.2.1,h.2.2⟩
 | x s=>exact⟨h.1,h.2.1,h.2.2⟩
 | n s =>
  obtain⟨Hb,l,o,a,k0,hs',b,c,rfl,rfl⟩:=h
  have k:Kp σ ρ' ρ' Hb (upd Hb l o):=Kp.fresh c
  refine⟨a.fresh c,k0.trans k,?_⟩
  cases s with
  | un=>trivial
  | vl d=>trivial
  | tp n=>trivial
  | dk n=>trivial
  | dt n=>trivial
  | ex n m=>trivial
  | sc n=>trivial
  | px n m k=>trivial
  | xl es=>trivial
  | ow ds =>
   obtain⟨l',vs,e,h1,h2⟩:=b
   injection e with e;injection e with e;injection e with e;subst e
   show RepD K _ (.ref l) (.lst ds)
   unfold RepD
   exact⟨l,vs,rfl,f0e (h0w a c) h1,h2.same k.vis⟩
theorem Out.rel (h:Out K F σ ρ H ρ' v H' r):RelR K F σ ρ' v H' r:=by
 cases r with
 | d d=>exact⟨h.1,h.2.2⟩
 | o i=>exact⟨h.1,h.2.2⟩
 | t n=>exact⟨h.1,h.2.2⟩
 | x s=>exact⟨h.1,h.2.2⟩
 | n s =>
  obtain⟨Hb,l,o,a,k0,hs',b,c,e1,e2⟩:=h
  exact⟨Hb,l,o,a,hs',b,c,e1,e2⟩
theorem Out.after {ρ1:En}{H1:Hp}(k:Kp σ ρ ρ1 H H1)(h:Out K F σ ρ1 H1 ρ' v H' r):Out K F σ ρ H ρ' v H' r:=by
 cases r with
 | d d=>exact⟨h.1,k.trans h.2.1,h.2.2⟩
 | o i=>exact⟨h.1,k.trans h.2.1,h.2.2⟩
 | t n=>exact⟨h.1,k.trans h.2.1,h.2.2⟩
 | x s=>exact⟨h.1,k.trans h.2.1,h.2.2⟩
 | n s =>
  obtain⟨Hb,l,o,a,k0,hs',b,c,e1,e2⟩:=h
  exact⟨Hb,l,o,a,k.trans k0,hs',b,c,e1,e2⟩
theorem d0p {d:D}(a:Rel K F σ ρ H)(h:InF K F σ ρ H v r)(e:view ρ r=some d):RepD K H v d:=by
 cases r with
 | d d'=>injection e with e;subst e;exact RepD.same h c0i
 | t n=>cases e
 | x s=>cases e
 | n s=>cases e
 | o i =>
  have q:=a.sl i
  unfold view at e
  cases hg:gt ρ i with
  | un=>simp[hg]at e
  | tp n=>simp[hg]at e
  | dk n=>simp[hg]at e
  | dt n=>simp[hg]at e
  | ex n m=>simp[hg]at e
  | sc n=>simp[hg]at e
  | px n m k=>simp[hg]at e
  | xl es=>simp[hg]at e
  | vl d' =>
   simp[hg]at e
   subst e
   rw[hg]at q
   obtain⟨x,e1,r1⟩:=q
   rw[show σ[i]? = _ from h]at e1
   injection e1 with e1;injection e1 with e1;subst e1
   exact r1.same c0i
  | ow ds =>
   simp[hg]at e
   subst e
   rw[hg]at q
   obtain⟨l,vs,e1,r1,r2⟩:=q
   rw[show σ[i]? = _ from h]at e1
   injection e1 with e1;injection e1 with e1;subst e1
   unfold RepD
   exact⟨l,vs,rfl,r1,r2.same c0i⟩
theorem c0q {ds:List D}(a:Rel K F σ ρ H)(h:InF K F σ ρ H v r)(e:view ρ r=some (.lst ds)):∃l vs,v = .ref l/\SqL K H l vs/\RepDs K (hid H (hs F σ ρ)) vs ds:=by
 cases r with
 | d d' =>
  injection e with e;subst e
  have h':RepD K _ v (.lst ds):=h
  unfold RepD at h'
  obtain⟨l,vs,e,q,r⟩:=h'
  exact⟨l,vs,e,c0i.seq (StL.sq q),r⟩
 | t n=>cases e
 | x s=>cases e
 | n s=>cases e
 | o i =>
  have q:=a.sl i
  unfold view at e
  cases hg:gt ρ i with
  | un=>simp[hg]at e
  | tp n=>simp[hg]at e
  | dk n=>simp[hg]at e
  | dt n=>simp[hg]at e
  | ex n m=>simp[hg]at e
  | sc n=>simp[hg]at e
  | px n m k=>simp[hg]at e
  | xl es=>simp[hg]at e
  | vl d' =>
   simp[hg]at e
   subst e
   rw[hg]at q
   obtain⟨x,e1,r1⟩:=q
   rw[show σ[i]? = _ from h]at e1
   injection e1 with e1;injection e1 with e1;subst e1
   unfold RepD at r1
   obtain⟨l,vs,e,q,r⟩:=r1
   exact⟨l,vs,e,c0i.seq (StL.sq q),r⟩
  | ow ds =>
   simp[hg]at e
   subst e
   rw[hg]at q
   obtain⟨l,vs,e1,r1,r2⟩:=q
   rw[show σ[i]? = _ from h]at e1
   injection e1 with e1;injection e1 with e1;subst e1
   exact⟨l,vs,rfl,SqL.of r1,r2⟩
theorem i0w {ds:List D}(a:Rel K F σ ρ H)(h:InF K F σ ρ H v r)(e:view ρ r=some (.tup ds)):∃l vs,v = .ref l/\SqT K H l vs/\RepDs K (hid H (hs F σ ρ)) vs ds/\StT (hid H (hs F σ ρ)) l vs:=by
 have go:∀ {x:V},RepD K (hid H (hs F σ ρ)) x (.tup ds)->∃l vs,x = .ref l/\SqT K H l vs/\RepDs K (hid H (hs F σ ρ)) vs ds/\StT (hid H (hs F σ ρ)) l vs:=fun h'=>by
  unfold RepD at h'
  obtain⟨l,vs,e,q,r⟩:=h'
  exact⟨l,vs,e,c0i.seqT q.sq,r,q⟩
 cases r with
 | d d'=>injection e with e;subst e;exact go h
 | t n=>cases e
 | x s=>cases e
 | n s=>cases e
 | o i =>
  have q:=a.sl i
  unfold view at e
  cases hg:gt ρ i with
  | un=>simp[hg]at e
  | tp n=>simp[hg]at e
  | dk n=>simp[hg]at e
  | dt n=>simp[hg]at e
  | ex n m=>simp[hg]at e
  | sc n=>simp[hg]at e
  | px n m k=>simp[hg]at e
  | xl es=>simp[hg]at e
  | ow ds'=>simp[hg]at e
  | vl d' =>
   simp[hg]at e
   subst e
   rw[hg]at q
   obtain⟨x,e1,r1⟩:=q
   rw[show σ[i]? = _ from h]at e1
   injection e1 with e1;injection e1 with e1;subst e1
   exact go r1
end
abbrev Ko:=R->En->Prop
abbrev AE:=En->Ko->Prop
abbrev AT:=En->(Bool->En->Prop)->Prop
abbrev AA:=En->(List R->En->Prop)->Prop
structure AEnds where
 nx:En->Prop
 rt:R->En->Prop
 bk:En->Prop
 ct:En->Prop
abbrev AS:=AEnds->En->Prop
def Beh (K:PySem.W.Frag)(F:Fr)(σ:St)(ρ:En)(H:Hp)(q:Ko)(Q:VK):Prop:=∀r ρ' v H',q r ρ'->Out K F σ ρ H ρ' v H' r->Q v H'
def TEok (K:PySem.W.Frag)(t:TE)(a:AE):Prop:=∀F σ ρ H q Q,Rel K F σ ρ H->a ρ q->Beh K F σ ρ H q Q->t σ H Q
def TTok (K:PySem.W.Frag)(t:TT)(a:AT):Prop:=∀F σ ρ H q Q,Rel K F σ ρ H->a ρ q->(∀b ρ' H',q b ρ'->Rel K F σ ρ' H'->Kp σ ρ ρ' H H'->Q b H')->t σ H Q
def TAok (K:PySem.W.Frag)(t:TA)(a:AA):Prop:=∀F σ ρ H q Q,Rel K F σ ρ H->a ρ q->(∀rs ρ' vs H',q rs ρ'->Rel K F σ ρ' H'->InFs K F σ ρ' H' vs rs->Kp σ ρ ρ' H H'->Q vs H')->t σ H Q
def OpOk (K:PySem.W.Frag)(r:R2)(g:R->R->AE):Prop:=∀F σ ρ H x y r1 r2 q Q,Rel K F σ ρ H->InF K F σ ρ H x r1->InF K F σ ρ H y r2->g r1 r2 ρ q->Beh K F σ ρ H q Q->r x y H Q
def CbOk (K:PySem.W.Frag)(r:List V->Hp->VK->Prop)(g:List R->AE):Prop:=∀F σ ρ H vs rs q Q,Rel K F σ ρ H->InFs K F σ ρ H vs rs->g rs ρ q->Beh K F σ ρ H q Q->r vs H Q
section
variable {K:PySem.W.Frag}{F:Fr}{σ:St}{ρ ρ':En}{H H':Hp}{v:V}{r:R}{q:Ko}{Q:VK}
theorem Beh.dat (b:Beh K F σ ρ H q Q)(a:Rel K F σ ρ H){d:D}(hq:q (.d d) ρ)(h:RepD K (hid H (hs F σ ρ)) v d):Q v H:=b (.d d) ρ v H hq ⟨a,.refl,h⟩
theorem Beh.int (b:Beh K F σ ρ H q Q)(a:Rel K F σ ρ H){i:Int}(hq:q (.d (.int i)) ρ):Q (.int i) H:=b.dat a hq (by unfold RepD;rfl)
theorem Beh.bl (b:Beh K F σ ρ H q Q)(a:Rel K F σ ρ H){i:Bool}(hq:q (.d (.bl i)) ρ):Q (.bl i) H:=b.dat a hq (by unfold RepD;rfl)
theorem Beh.non (b:Beh K F σ ρ H q Q)(a:Rel K F σ ρ H)(hq:q (.d .non) ρ):Q .non H:=b.dat a hq (by unfold RepD;rfl)
theorem Beh.str (b:Beh K F σ ρ H q Q)(a:Rel K F σ ρ H){x:Str}(hq:q (.d (.str x)) ρ):Q (.str x) H:=b.dat a hq (by unfold RepD;rfl)
theorem Beh.new (b:Beh K F σ ρ H q Q)(a:Rel K F σ ρ H){ds:List D}{vs:List V}{l:Addr}(hq:q (.f ds) ρ)(hd:RepDs K (hid H (hs F σ ρ)) vs ds)(hl:H l=none):Q (.ref l) (upd H l (.lst vs)) :=
 b (.f ds) ρ _ _ hq ⟨H,l,_,a,.refl,rfl,⟨l,vs,rfl,a0y,hd⟩,hl,rfl,rfl⟩
theorem Beh.newT (b:Beh K F σ ρ H q Q)(a:Rel K F σ ρ H){ds:List D}{vs:List V}{l:Addr}(hq:q (.d (.tup ds)) ρ)(hd:RepDs K (hid H (hs F σ ρ)) vs ds)(hl:H l=none):Q (.ref l) (upd H l (.tup vs)):=by
 have k:Kp σ ρ ρ H (upd H l (.tup vs)):=Kp.fresh hl
 refine b (.d (.tup ds)) ρ _ _ hq ⟨a.fresh hl,k,?_⟩
 unfold RepD
 exact⟨l,vs,rfl,(f0e (h0w a hl) a0y),hd.same k.vis⟩
theorem Beh.after {ρ1:En}{H1:Hp}(b:Beh K F σ ρ H q Q)(k:Kp σ ρ ρ1 H H1):Beh K F σ ρ1 H1 q Q:=fun r ρ' v H' hq h=>b r ρ' v H' hq (.after k h)
def aVar (i:Nat):AE:=fun ρ q=>match gt ρ i with
 | .un=>False
 | .vl d=>q (.d d) ρ
 | .ow _=>q (.o i) ρ
 | .tp _=>q (.o i) ρ
 | .dk _=>q (.o i) ρ
 | .dt _=>q (.o i) ρ
 | .ex _ _=>q (.o i) ρ
 | .sc _=>q (.o i) ρ
 | .px _ _ _=>q (.o i) ρ
 | .xl _=>q (.o i) ρ
theorem a0c {i:Nat}:TEok K (tVar i) (aVar i):=by
 intro F σ ρ H q Q a h b
 have s:=a.sl i
 unfold aVar at h
 cases hg:gt ρ i with
 | un=>rw[hg]at h;exact h.elim
 | vl d =>
  rw[hg]at h s
  obtain⟨x,e,r⟩:=s
  exact⟨x,e,b _ _ _ _ h ⟨a,.refl,r⟩⟩
 | ow ds =>
  rw[hg]at h s
  obtain⟨l,vs,e,_⟩:=s
  exact⟨_,e,b _ _ _ _ h ⟨a,.refl,e⟩⟩
 | tp n =>
  rw[hg]at h s
  obtain⟨l,c,ns,sp,lf,e,_⟩:=s
  exact⟨_,e,b _ _ _ _ h ⟨a,.refl,e⟩⟩
 | dk kvs =>
  rw[hg]at h s
  obtain⟨l,ks,e,_⟩:=s
  exact⟨_,e,b _ _ _ _ h ⟨a,.refl,e⟩⟩
 | dt kvs =>
  rw[hg]at h s
  obtain⟨l,ks,e,_⟩:=s
  exact⟨_,e,b _ _ _ _ h ⟨a,.refl,e⟩⟩
 | ex C fs =>
  rw[hg]at h s
  obtain⟨l,ks,e,_⟩:=s
  exact⟨_,e,b _ _ _ _ h ⟨a,.refl,e⟩⟩
 | sc ns =>
  rw[hg]at h s
  obtain⟨l,e,_⟩:=s
  exact⟨_,e,b _ _ _ _ h ⟨a,.refl,e⟩⟩
 | xl es =>
  rw[hg]at h s
  obtain⟨l,ks,e,_⟩:=s
  exact⟨_,e,b _ _ _ _ h ⟨a,.refl,e⟩⟩
 | px d C fs =>
  rw[hg]at h s
  obtain⟨l,x,e',od,e,_⟩:=s
  exact⟨_,e,b _ _ _ _ h ⟨a,.refl,e⟩⟩
def aC (r:R):AE:=fun ρ q=>q r ρ
theorem a0g {i:Int}:TEok K (tC (.int i)) (aC (.d (.int i))):=fun _ _ _ _ _ _ a h b=>b.int a h
theorem j0g {i:Bool}:TEok K (tC (.bl i)) (aC (.d (.bl i))):=fun _ _ _ _ _ _ a h b=>b.bl a h
theorem m0f {i:Str}:TEok K (tC (.str i)) (aC (.d (.str i))):=fun _ _ _ _ _ _ a h b=>b.str a h
theorem f0j:TEok K (tC .non) (aC (.d .non)):=fun _ _ _ _ _ _ a h b=>b.non a h
theorem l0f {n:String}:TEok K (tC (.ty n)) (aC (.t n)):=fun _ _ _ _ _ _ a h b=>b _ _ _ _ h ⟨a,.refl,rfl⟩
def aOp (g:R->R->AE)(a b:AE):AE:=fun ρ q=>a ρ fun r1 ρ1=>b ρ1 fun r2 ρ2=>g r1.frz r2.frz ρ2 q
variable {t t' ta tb tc:TE}{a b c:AE}{rr:R2}{g:R->R->AE}
theorem a0j (ho:OpOk K rr g)(ha:TEok K ta a)(hb:TEok K tb b):TEok K (tOp rr ta tb) (aOp g a b):=by
 intro F σ ρ H q Q r h k
 refine ha F σ ρ H _ _ r h fun r1 ρ1 x H1 h1 rel1=>?_
 obtain⟨r',k1,i1⟩:=rel1.inF
 refine hb F σ ρ1 H1 _ _ r' h1 fun r2 ρ2 y H2 h2 rel2=>?_
 obtain⟨r'',k2,i2⟩:=rel2.inF
 exact ho F σ ρ2 H2 x y _ _ q Q r'' (i1.keep k2) i2 h2 (k.after (k1.trans k2))
def aUn (g:R->AE)(a:AE):AE:=fun ρ q=>a ρ fun r1 ρ1=>g r1.frz ρ1 q
def gI (C:Int->Int->Prop)(f:Int->Int->D):R->R->AE:=fun r1 r2 ρ q=>match r1,r2 with
 | .d (.int i),.d (.int j)=>C i j/\q (.d (f i j)) ρ
 | _,_=>False
theorem i1b {C:Int->Int->Prop}{f:Int->Int->D}{r1 r2:R}(h:gI C f r1 r2 ρ q):∃i j,r1 = .d (.int i)/\r2 = .d (.int j)/\C i j/\q (.d (f i j)) ρ:=by
 unfold gI at h
 split at h
 ·exact⟨_,_,rfl,rfl,h⟩
 ·exact h.elim
theorem InF.int {i:Int}(h:InF K F σ ρ H v (.d (.int i))):v = .int i:=by
 unfold InF RepD at h;exact h
theorem InF.blv {i:Bool}(h:InF K F σ ρ H v (.d (.bl i))):v = .bl i:=by
 unfold InF RepD at h;exact h
theorem f0o {C:Int->Int->Prop}{f:Int->Int->Int}:OpOk K (rI C fun i j=>.int (f i j)) (gI C fun i j=>.int (f i j)):=by
 intro F σ ρ H x y r1 r2 q Q a h1 h2 h b
 obtain⟨i,j,rfl,rfl,c,h⟩:=i1b h
 exact⟨i,j,h1.int,h2.int,c,b.int a h⟩
def gI0 (f:Int->Int->D):R->R->AE:=fun r1 r2 ρ q=>match r1,r2 with
 | .d (.int i),.d (.int j)=>q (.d (f i j)) ρ
 | _,_=>False
theorem x0k {f:Int->Int->D}{r1 r2:R}(h:gI0 f r1 r2 ρ q):∃i j,r1 = .d (.int i)/\r2 = .d (.int j)/\q (.d (f i j)) ρ:=by
 unfold gI0 at h
 split at h
 ·exact⟨_,_,rfl,rfl,h⟩
 ·exact h.elim
theorem b0a {f:Int->Int->Int}:OpOk K (rI0 fun i j=>.int (f i j)) (gI0 fun i j=>.int (f i j)):=by
 intro F σ ρ H x y r1 r2 q Q a h1 h2 h b
 obtain⟨i,j,rfl,rfl,h⟩:=x0k h
 exact⟨i,j,h1.int,h2.int,b.int a h⟩
theorem d0m {f:Int->Int->Bool}:OpOk K (rI0 fun i j=>.bl (f i j)) (gI0 fun i j=>.bl (f i j)):=by
 intro F σ ρ H x y r1 r2 q Q a h1 h2 h b
 obtain⟨i,j,rfl,rfl,h⟩:=x0k h
 exact⟨i,j,h1.int,h2.int,b.bl a h⟩
@[irreducible] def gEq (neg:Bool):R->R->AE:=fun r1 r2 ρ q=>match view ρ r1,view ρ r2 with
 | some d,some e=>d.depth<=60/\q (.d (.bl (if neg then !eqD d e else eqD d e))) ρ
 | _,_=>False
theorem x0l {neg:Bool}{r1 r2:R}(h:gEq neg r1 r2 ρ q):∃d e,view ρ r1=some d/\view ρ r2=some e/\d.depth<=60/\q (.d (.bl (if neg then !eqD d e else eqD d e))) ρ:=by
 unfold gEq at h
 split at h
 ·rename_i d e h1 h2;exact⟨d,e,h1,h2,h⟩
 ·exact h.elim
theorem j0z:OpOk K (rEqD K) (gEq false):=by
 intro F σ ρ H x y r1 r2 q Q a h1 h2 h b
 obtain⟨d,e,e1,e2,c,h⟩:=x0l h
 exact⟨d,e,d0p a h1 e1,d0p a h2 e2,c,b.bl a h⟩
theorem o0m:OpOk K (rNeD K) (gEq true):=by
 intro F σ ρ H x y r1 r2 q Q a h1 h2 h b
 obtain⟨d,e,e1,e2,c,h⟩:=x0l h
 exact⟨d,e,d0p a h1 e1,d0p a h2 e2,c,b.bl a h⟩
@[irreducible] def gIx:R->R->AE:=fun r1 r2 ρ q=>match view ρ r1,r2 with
 | some (.lst ds),.d (.int i)=>(match atI ds i with | some d=>q (.d d) ρ | none=>False)
 | some (.tup ds),.d (.int i)=>(match atI ds i with | some d=>q (.d d) ρ | none=>False)
 | _,_=>False
theorem y0n {Hh:Hp}{vs:List V}{ds:List D}{i:Int}{d:D}(h:RepDs K Hh vs ds)(e:atI ds i=some d):∃v,atI vs i=some v/\RepD K Hh v d:=by
 unfold atI at e ⊢
 rw[h.length]
 cases hx:ixN ds.length i with
 | none=>rw[hx]at e;cases e
 | some j =>
  rw[hx]at e
  exact h.get e
theorem e0h:OpOk K (rIx K) gIx:=by
 intro F σ ρ H x y r1 r2 q Q a h1 h2 h b
 unfold gIx at h
 split at h
 ·rename_i ds i e1
  split at h
  ·rename_i d e
   obtain⟨l,vs,rfl,sq,rd⟩:=c0q a h1 e1
   obtain⟨v,e2,rv⟩:=y0n rd e
   exact .inl ⟨l,vs,i,v,rfl,h2.int,sq,e2,b.dat a h rv⟩
  ·exact h.elim
 ·rename_i ds i e1
  split at h
  ·rename_i d e
   obtain⟨l,vs,rfl,sq,rd,_⟩:=i0w a h1 e1
   obtain⟨v,e2,rv⟩:=y0n rd e
   exact .inr (.inl ⟨l,vs,i,v,rfl,h2.int,sq,e2,b.dat a h rv⟩)
  ·exact h.elim
 ·exact h.elim
def j1y (a b:AE):AE:=fun ρ q=>a ρ fun r ρ1=>match r with
 | .d (.bl c)=>if c=true then b ρ1 q else q (.d (.bl false)) ρ1
 | _=>False
def j1s (a:AE):AE:=fun ρ q=>a ρ fun r ρ1=>match r with
 | .d (.bl c)=>q (.d (.bl (!c))) ρ1
 | _=>False
theorem m0g (ha:TEok K ta a)(hb:TEok K tb b):TEok K (g1j ta tb) (j1y a b):=by
 intro F σ ρ H q Q r h k
 refine ha F σ ρ H _ _ r h fun r1 ρ1 x H1 h1 rel1=>?_
 split at h1
 ·rename_i c
  obtain⟨r',k1,i1⟩:=rel1.inF
  refine⟨c,i1.blv,?_⟩
  cases c with
  | true=>exact hb F σ ρ1 H1 q Q r' h1 (k.after k1)
  | false=>exact(k.after k1).bl r' h1
 ·exact h1.elim
theorem z0d (ha:TEok K ta a):TEok K (g1g ta) (j1s a):=by
 intro F σ ρ H q Q r h k
 refine ha F σ ρ H _ _ r h fun r1 ρ1 x H1 h1 rel1=>?_
 split at h1
 ·rename_i c
  obtain⟨r',k1,i1⟩:=rel1.inF
  exact⟨c,i1.blv,(k.after k1).bl r' h1⟩
 ·exact h1.elim
variable {tt tu:TT}{at' au:AT}
def aB (a:AE):AT:=fun ρ q=>a ρ fun r ρ1=>match r with
 | .d (.bl c)=>q c ρ1
 | _=>False
theorem g0z (ha:TEok K ta a):TTok K (tB ta) (aB a):=by
 intro F σ ρ H q Q r h k
 refine ha F σ ρ H _ _ r h fun r1 ρ1 x H1 h1 rel1=>?_
 split at h1
 ·rename_i c
  obtain⟨r',k1,i1⟩:=rel1.inF
  exact⟨c,i1.blv,k _ _ _ h1 r' k1⟩
 ·exact h1.elim
theorem a0r (ha:TEok K ta a):TTok K (g1e ta) (aB a):=g0z ha
def aAnd (a b:AT):AT:=fun ρ q=>a ρ fun c ρ1=>if c=true then b ρ1 q else q false ρ1
def aOr (a b:AT):AT:=fun ρ q=>a ρ fun c ρ1=>if c=true then q true ρ1 else b ρ1 q
def aNot (a:AT):AT:=fun ρ q=>a ρ fun c ρ1=>q (!c) ρ1
theorem f0i (ha:TTok K tt at')(hb:TTok K tu au):TTok K (tAnd tt tu) (aAnd at' au):=by
 intro F σ ρ H q Q r h k
 refine ha F σ ρ H _ _ r h fun c ρ1 H1 h1 r1 k1=>?_
 cases c with
 | true=>exact hb F σ ρ1 H1 q Q r1 h1 fun b ρ2 H2 h2 r2 k2=>k _ _ _ h2 r2 (k1.trans k2)
 | false=>exact k _ _ _ h1 r1 k1
theorem f0y (ha:TTok K tt at')(hb:TTok K tu au):TTok K (tOr tt tu) (aOr at' au):=by
 intro F σ ρ H q Q r h k
 refine ha F σ ρ H _ _ r h fun c ρ1 H1 h1 r1 k1=>?_
 cases c with
 | true=>exact k _ _ _ h1 r1 k1
 | false=>exact hb F σ ρ1 H1 q Q r1 h1 fun b ρ2 H2 h2 r2 k2=>k _ _ _ h2 r2 (k1.trans k2)
theorem f0h (ha:TTok K tt at'):TTok K (tNot tt) (aNot at'):=fun F σ ρ H q Q r h k=>ha F σ ρ H _ _ r h fun c ρ1 H1 h1 r1 k1=>k _ _ _ h1 r1 k1
def truD:D->Bool
 | .non=>false
 | .bl b=>b
 | .int i=>i != 0
 | .str _=>true
 | .tup ds=>!ds.isEmpty
 | .lst ds=>!ds.isEmpty
def aTru (a:AE):AT:=fun ρ q=>a ρ fun r ρ1=>match view ρ1 r.frz with
 | some (.str _)=>False
 | some d=>q (truD d) ρ1
 | none=>False
theorem k0g {Hh:Hp}{vs:List V}{ds:List D}(h:RepDs K Hh vs ds):vs.isEmpty=ds.isEmpty:=by
 have:=h.length
 cases vs <;> cases ds <;> simp_all
theorem z0b (ha:TEok K ta a):TTok K (fun σ H Q=>ta σ H fun x H'=>∃k,TruV K x H' k/\Q k H') (aTru a):=by
 intro F σ ρ H q Q r h k
 refine ha F σ ρ H _ _ r h fun r1 ρ1 x H1 h1 rel1=>?_
 obtain⟨r',k1,i1⟩:=rel1.inF
 cases e:view ρ1 r1.frz with
 | none=>rw[e]at h1;exact h1.elim
 | some d =>
  rw[e]at h1
  have rd:=d0p r' i1 e
  cases d with
  | str x=>exact h1.elim
  | non=>unfold RepD at rd;subst rd;exact⟨_,rfl,k _ _ _ h1 r' k1⟩
  | bl b=>unfold RepD at rd;subst rd;exact⟨_,rfl,k _ _ _ h1 r' k1⟩
  | int b=>unfold RepD at rd;subst rd;exact⟨_,rfl,k _ _ _ h1 r' k1⟩
  | tup ds =>
   unfold RepD at rd
   obtain⟨p,vs,rfl,sq,rr⟩:=rd
   exact⟨_,.inr (.inl ⟨vs,sq,by rw[k0g rr];rfl⟩),k _ _ _ h1 r' k1⟩
  | lst ds =>
   unfold RepD at rd
   obtain⟨p,vs,rfl,sq,rr⟩:=rd
   exact⟨_,.inl ⟨vs,sq,by rw[k0g rr];rfl⟩,k _ _ _ h1 r' k1⟩
variable {ts:TA}{as:AA}
def aNil:AA:=fun ρ q=>q [] ρ
def j1v (a:AE)(as:AA):AA:=fun ρ q=>a ρ fun r ρ1=>as ρ1 fun rs ρ2=>q (r.frz::rs) ρ2
theorem a0d:TAok K tNil aNil:=fun F σ ρ H q Q r h k=>k _ _ _ _ h r .nil .refl
theorem a0a (ha:TEok K ta a)(hs:TAok K ts as):TAok K (z0g ta ts) (j1v a as):=by
 intro F σ ρ H q Q r h k
 refine ha F σ ρ H _ _ r h fun r1 ρ1 x H1 h1 rel1=>?_
 obtain⟨r',k1,i1⟩:=rel1.inF
 refine hs F σ ρ1 H1 _ _ r' h1 fun rs ρ2 vs H2 h2 r2 i2 k2=>?_
 exact k _ _ _ _ h2 r2 (.cons (i1.keep k2) i2) (k1.trans k2)
def sto:List R->En->(List D->En->Prop)->Prop
 | [],ρ,q=>q [] ρ
 | .d d::rs,ρ,q=>sto rs ρ fun ds ρ'=>q (d::ds) ρ'
 | .o i::rs,ρ,q=>(match gt ρ i with
  | .ow ds=>sto rs (pt ρ i (.vl (.lst ds))) fun es ρ'=>q (.lst ds::es) ρ'
  | .vl d=>sto rs ρ fun es ρ'=>q (d::es) ρ'
  | _=>False)
 | _::_,_,_=>False
theorem h0a:∀ {vs:List V} {rs:List R} {ρ:En} {q:List D->En->Prop},Rel K F σ ρ H->InFs K F σ ρ H vs rs->sto rs ρ q->∃ds ρ',q ds ρ'/\Rel K F σ ρ' H/\Kp σ ρ ρ' H H/\RepDs K (hid H (hs F σ ρ')) vs ds
 | _,_,ρ,q,r,.nil,h=>⟨[],ρ,h,r,.refl,.nil⟩
 | _,_,ρ,q,r,.cons (v:=v) (r:=rr) (vs:=vs) (rs:=rs) a t,h=>by
  cases rr with
  | n s=>exact h.elim
  | t n=>exact h.elim
  | x s=>exact h.elim
  | d d =>
   obtain⟨ds,ρ',hq,r',k,rd⟩:=h0a r t (show sto rs ρ _ from h)
   exact⟨d::ds,ρ',hq,r',k,.cons (RepD.same a k.vis) rd⟩
  | o i =>
   have s:=r.sl i
   unfold sto at h
   cases hg:gt ρ i with
   | un=>rw[hg]at h;exact h.elim
   | tp n=>rw[hg]at h;exact h.elim
   | dk n=>rw[hg]at h;exact h.elim
   | dt n=>rw[hg]at h;exact h.elim
   | ex n m=>rw[hg]at h;exact h.elim
   | sc n=>rw[hg]at h;exact h.elim
   | px n m k=>rw[hg]at h;exact h.elim
   | xl es=>rw[hg]at h;exact h.elim
   | vl d =>
    rw[hg]at h s
    obtain⟨x,e,rd1⟩:=s
    rw[show σ[i]? = _ from a]at e
    injection e with e;injection e with e;subst e
    obtain⟨ds,ρ',hq,r',k,rd⟩:=h0a r t h
    exact⟨d::ds,ρ',hq,r',k,.cons (rd1.same k.vis) rd⟩
   | ow ds =>
    rw[hg]at h
    obtain⟨l,e,r1,k1,rd1⟩:=r.frz hg
    rw[show σ[i]? = _ from a]at e
    injection e with e;injection e with e;subst e
    obtain⟨es,ρ',hq,r',k,rd⟩:=h0a r1 (t.keep k1) h
    exact⟨_,ρ',hq,r',k1.trans k,.cons (rd1.same k.vis) rd⟩
theorem small {n:Nat}(h:n<=1000000):n<=sizeLine:=by unfold sizeLine;omega
theorem o0a {n:Nat}(h:n<=1000000):n<sizeLine:=by unfold sizeLine;omega
def aTup (as:AA):AE:=fun ρ q=>as ρ fun rs ρ1=>sto rs ρ1 fun ds ρ2=>ds.length<=1000000/\q (.d (.tup ds)) ρ2
def aLst (as:AA):AE:=fun ρ q=>as ρ fun rs ρ1=>sto rs ρ1 fun ds ρ2=>ds.length<=1000000/\q (.f ds) ρ2
theorem c0m (hs:TAok K ts as):TEok K (tTup ts) (aTup as):=by
 intro F σ ρ H q Q r h k
 refine hs F σ ρ H _ _ r h fun rs ρ1 vs H1 h1 r1 i1 k1=>?_
 obtain⟨ds,ρ2,⟨hz,hq⟩,r2,k2,rd⟩:=h0a r1 i1 h1
 exact⟨small (by rw[rd.length];exact hz),fun p hp=>((k.after k1).after k2).newT r2 hq rd hp⟩
theorem d0y (hs:TAok K ts as):TEok K (tLst ts) (aLst as):=by
 intro F σ ρ H q Q r h k
 refine hs F σ ρ H _ _ r h fun rs ρ1 vs H1 h1 r1 i1 k1=>?_
 obtain⟨ds,ρ2,⟨hz,hq⟩,r2,k2,rd⟩:=h0a r1 i1 h1
 exact⟨small (by rw[rd.length];exact hz),fun p hp=>((k.after k1).after k2).new r2 hq rd hp⟩
def aCB (g:List R->AE)(as:AA):AE:=fun ρ q=>as ρ fun rs ρ1=>g rs ρ1 q
theorem b0j {rb:List V->Hp->VK->Prop}{g:List R->AE}(hb:CbOk K rb g)(hs:TAok K ts as):TEok K (tCB rb ts) (aCB g as):=by
 intro F σ ρ H q Q r h k
 exact hs F σ ρ H _ _ r h fun rs ρ1 vs H1 h1 r1 i1 k1=>hb F σ ρ1 H1 vs rs q Q r1 i1 h1 (k.after k1)
theorem InFs.one {vs:List V}{r1:R}(h:InFs K F σ ρ H vs [r1]):∃x,vs=[x]/\InF K F σ ρ H x r1:=by
 cases h with | cons a t=>cases t;exact⟨_,rfl,a⟩
theorem InFs.two {vs:List V}{r1 r2:R}(h:InFs K F σ ρ H vs [r1,r2]):∃x y,vs=[x,y]/\InF K F σ ρ H x r1/\InF K F σ ρ H y r2:=by
 cases h with | cons a t=>obtain⟨y,rfl,b⟩:=t.one;exact⟨_,_,rfl,a,b⟩
def gLen:List R->AE:=fun rs ρ q=>match rs with
 | [r]=>(match view ρ r with
  | some (.lst ds)=>q (.d (.int ds.length)) ρ
  | some (.tup ds)=>q (.d (.int ds.length)) ρ
  | _=>False)
 | _=>False
theorem b0w:CbOk K (fun xs H Q=>∃p ys,xs=[.ref p]/\(SqL K H p ys∨SqT K H p ys)/\Q (.int ys.length) H) gLen:=by
 intro F σ ρ H vs rs q Q a i h b
 unfold gLen at h
 split at h
 ·obtain⟨x,rfl,i1⟩:=i.one
  split at h
  ·rename_i ds e
   obtain⟨l,vs,rfl,sq,rd⟩:=c0q a i1 e
   exact⟨l,vs,rfl,.inl sq,by rw[rd.length];exact b.int a h⟩
  ·rename_i ds e
   obtain⟨l,vs,rfl,sq,rd,_⟩:=i0w a i1 e
   exact⟨l,vs,rfl,.inr sq,by rw[rd.length];exact b.int a h⟩
  ·exact h.elim
 ·exact h.elim
@[irreducible] def gIsa:List R->AE:=fun rs ρ q=>match rs with
 | [r,.t n]=>(match view ρ r with
  | some d=>(match isaT (tyD d) n with | some b=>q (.d (.bl b)) ρ | none=>False)
  | none=>False)
 | _=>False
theorem g0x:CbOk K (fun xs H Q=>∃x d T b,xs=[x,.ty T]/\RepD K H x d/\isaT (tyD d) T=some b/\Q (.bl b) H) gIsa:=by
 intro F σ ρ H vs rs q Q a i h b
 unfold gIsa at h
 split at h
 ·obtain⟨x,y,rfl,i1,j1⟩:=i.two
  split at h
  ·rename_i d e
   split at h
   ·rename_i b' e'
    exact⟨x,d,_,b',by rw[show y=_ from j1],d0p a i1 e,e',b.bl a h⟩
   ·exact h.elim
  ·exact h.elim
 ·exact h.elim
def gTuple:List R->AE:=fun rs ρ q=>match rs with
 | [r]=>(match view ρ r with
  | some (.lst ds)=>q (.d (.tup ds)) ρ
  | some (.tup ds)=>q (.d (.tup ds)) ρ
  | _=>False)
 | _=>False
theorem e0k:CbOk K (fun xs H Q=>∃p ys,xs=[.ref p]/\((SqL K H p ys/\∀l,H l=none->Q (.ref l) (upd H l (.tup ys)))∨(SqT K H p ys/\Q (.ref p) H))) gTuple:=by
 intro F σ ρ H vs rs q Q a i h b
 unfold gTuple at h
 split at h
 ·obtain⟨x,rfl,i1⟩:=i.one
  split at h
  ·rename_i ds e
   obtain⟨l,vs,rfl,sq,rd⟩:=c0q a i1 e
   exact⟨l,vs,rfl,.inl ⟨sq,fun p hp=>b.newT a h rd hp⟩⟩
  ·rename_i ds e
   obtain⟨l,vs,rfl,sq,rd,sq'⟩:=i0w a i1 e
   refine⟨l,vs,rfl,.inr ⟨sq,b.dat a h ?_⟩⟩
   unfold RepD
   exact⟨l,vs,rfl,sq',rd⟩
  ·exact h.elim
 ·exact h.elim
def gII (f:Int->Int->Int):List R->AE:=fun rs ρ q=>match rs with
 | [.d (.int i),.d (.int j)]=>q (.d (.int (f i j))) ρ
 | _=>False
theorem a1n:CbOk K (fun xs H Q=>∃i j,xs=[.int i,.int j]/\Q (.int (if j > i then j else i)) H) (gII fun i j=>if j > i then j else i):=by
 intro F σ ρ H vs rs q Q a i h b
 unfold gII at h
 split at h
 ·obtain⟨x,y,rfl,i1,j1⟩:=i.two
  exact⟨_,_,by rw[i1.int,j1.int],b.int a h⟩
 ·exact h.elim
def f0w:List D->Option (List Int)
 | []=>some []
 | .int i::ds=>(f0w ds).map (i :: ·)
 | _=>none
theorem p0g:∀ {ds:List D} {ns:List Int},f0w ds=some ns->ds=ns.map D.int
 | [],ns,h=>by simp[f0w]at h;subst h;rfl
 | .int i::ds,ns,h=>by
  simp only[f0w,Option.map_eq_some_iff]at h
  obtain⟨ms,e,rfl⟩:=h
  rw[p0g e];rfl
 | .non::ds,ns,h=>by simp[f0w]at h
 | .bl _::ds,ns,h=>by simp[f0w]at h
 | .str _::ds,ns,h=>by simp[f0w]at h
 | .tup _::ds,ns,h=>by simp[f0w]at h
 | .lst _::ds,ns,h=>by simp[f0w]at h
theorem u0j (ns:List Int):f0w (ns.map D.int)=some ns:=by
 induction ns with
 | nil=>rfl
 | cons n ns ih=>simp[f0w,ih]
def i0l:List D->Option (List Bool)
 | []=>some []
 | .bl i::ds=>(i0l ds).map (i :: ·)
 | _=>none
theorem n0o:∀ {ds:List D} {ns:List Bool},i0l ds=some ns->ds=ns.map D.bl
 | [],ns,h=>by simp[i0l]at h;subst h;rfl
 | .bl i::ds,ns,h=>by
  simp only[i0l,Option.map_eq_some_iff]at h
  obtain⟨ms,e,rfl⟩:=h
  rw[n0o e];rfl
 | .non::ds,ns,h=>by simp[i0l]at h
 | .int _::ds,ns,h=>by simp[i0l]at h
 | .str _::ds,ns,h=>by simp[i0l]at h
 | .tup _::ds,ns,h=>by simp[i0l]at h
 | .lst _::ds,ns,h=>by simp[i0l]at h
theorem p0u (ns:List Bool):i0l (ns.map D.bl)=some ns:=by
 induction ns with
 | nil=>rfl
 | cons n ns ih=>simp[i0l,ih]
theorem w0b:∀ {vs:List V} {ns:List Bool},RepDs K H vs (ns.map D.bl)->vs=ns.map V.bl
 | [],[],_=>rfl
 | v::vs,n::ns,h=>by
  rw[List.map_cons]at h
  unfold RepDs at h
  obtain⟨h1,h2⟩:=h
  unfold RepD at h1
  rw[List.map_cons,h1,w0b h2]
 | [],n::ns,h=>by rw[List.map_cons]at h;unfold RepDs at h;exact h.elim
 | v::vs,[],h=>by rw[List.map_nil]at h;unfold RepDs at h;exact h.elim
@[irreducible] def gAll:List R->AE:=fun rs ρ q=>match rs with
 | [r]=>(match view ρ r with
  | some (.lst ds)=>(match i0l ds with | some bs=>q (.d (.bl (bs.all id))) ρ | none=>False)
  | _=>False)
 | _=>False
theorem t0i:CbOk K (fun xs H Q=>∃(p:Addr) (bs:List Bool),xs=[.ref p]/\SqL K H p (bs.map V.bl)/\Q (.bl (bs.all id)) H) gAll:=by
 intro F σ ρ H vs rs q Q a i h b
 unfold gAll at h
 split at h
 ·obtain⟨x,rfl,i1⟩:=i.one
  split at h
  ·rename_i ds e
   split at h
   ·rename_i bs e'
    obtain⟨l,vs,rfl,sq,rd⟩:=c0q a i1 e
    rw[n0o e']at rd
    rw[w0b rd]at sq
    exact⟨l,bs,rfl,sq,b.bl a h⟩
   ·exact h.elim
  ·exact h.elim
 ·exact h.elim
@[irreducible] def gSum:List R->AE:=fun rs ρ q=>match rs with
 | [r]=>(match view ρ r with
  | some (.lst ds)=>(match f0w ds with | some ns=>(∀n∈ns,0<=n)/\ns.sum<2^62/\q (.d (.int ns.sum)) ρ | none=>False)
  | _=>False)
 | _=>False
theorem a1m:CbOk K (fun xs H Q=>∃(p:Addr) (ns:List Int),xs=[.ref p]/\SqL K H p (ns.map V.int)/\(∀n∈ns,0<=n)/\ns.sum<2^62/\Q (.int ns.sum) H) gSum:=by
 intro F σ ρ H vs rs q Q a i h b
 unfold gSum at h
 split at h
 ·obtain⟨x,rfl,i1⟩:=i.one
  split at h
  ·rename_i ds e
   split at h
   ·rename_i bs e'
    obtain⟨l,vs,rfl,sq,rd⟩:=c0q a i1 e
    rw[p0g e',q0k]at rd
    rw[rd]at sq
    exact⟨l,bs,rfl,sq,h.1,h.2.1,b.int a h.2.2⟩
   ·exact h.elim
  ·exact h.elim
 ·exact h.elim
def aApp (a:AE)(as:AA):AE:=fun ρ q=>a ρ fun r ρ1=>match r with
 | .o i=>(match gt ρ1 i with
  | .ow _=>as ρ1 fun rs ρ2=>(match rs with
   | [y]=>sto [y] ρ2 fun es ρ3=>(match gt ρ3 i with
    | .ow ds=>ds.length<=1000000/\q (.d .non) (pt ρ3 i (.ow (ds++es)))
    | _=>False)
   | _=>False)
  | _=>False)
 | _=>False
theorem j0h (ha:TEok K ta a)(hs:TAok K ts as):TEok K (tBM K "list" rAppend ta ts) (aApp a as):=by
 intro F σ ρ H q Q r h k
 refine ha F σ ρ H _ _ r h fun r1 ρ1 x H1 h1 rel1=>?_
 split at h1
 ·rename_i i
  obtain⟨r',k1,i1⟩:=rel1.inF
  have ex:σ[i]? = some (some x):=i1
  split at h1
  ·rename_i ds0 hg0
   have s:=r'.sl i
   rw[hg0,ex]at s
   obtain⟨l,vs0,e,hl,_⟩:=s
   injection e with e;injection e with e;subst e
   refine⟨.inl ⟨rfl,_,SqL.of hl⟩,hs F σ ρ1 H1 _ _ r' h1 fun rs ρ2 vs H2 h2 r2 i2 k2=>?_⟩
   split at h2
   ·obtain⟨es,ρ3,h3,r3,k3,rd⟩:=h0a r2 i2 h2
    split at h3
    ·rename_i ds hg
     have s:=r3.sl i
     rw[hg,ex]at s
     obtain⟨l',us,e,hl',rd'⟩:=s
     injection e with e;injection e with e;injection e with e;subst e
     obtain⟨y,rfl,_⟩:=i2.one
     have hw:=r3.write (i:=i) (l:=l) (o:=.lst (us++[y])) (s:=.ow (ds++es)) (by rw[hg];rfl) ex rfl ⟨l,_,rfl,a0y,rd'.append rd⟩
     refine⟨l,us,y,rfl,rfl,hl',o0a (by rw[rd'.length];exact h3.1),?_⟩
     exact(((k.after k1).after k2).after (k3.trans hw.2)).non hw.1 h3.2
    ·exact h3.elim
   ·exact h2.elim
  ·exact h1.elim
 ·exact h1.elim
abbrev AO:=En->(Option Int->En->Prop)->Prop
def TOok (K:PySem.W.Frag)(t:TO)(a:AO):Prop:=∀F σ ρ H q Q,Rel K F σ ρ H->a ρ q->(∀b ρ' H',q b ρ'->Rel K F σ ρ' H'->Kp σ ρ ρ' H H'->Q b H')->t σ H Q
def oNo:AO:=fun ρ q=>q none ρ
def j1h (a:AE):AO:=fun ρ q=>a ρ fun r ρ1=>match r with
 | .d (.int i)=>q (some i) ρ1
 | _=>False
theorem v0c:TOok K tNoPart oNo:=fun F σ ρ H q Q r h k=>k _ _ _ h r .refl
theorem n0w (ha:TEok K ta a):TOok K (g1f ta) (j1h a):=by
 intro F σ ρ H q Q r h k
 refine ha F σ ρ H _ _ r h fun r1 ρ1 x H1 h1 rel1=>?_
 split at h1
 ·obtain⟨r',k1,i1⟩:=rel1.inF
  exact⟨_,i1.int,k _ _ _ h1 r' k1⟩
 ·exact h1.elim
def cutD (xs:List D)(lo hi:Option Int):List D:=(xs.drop (HT.sIx xs.length 0 lo)).take (HT.sIx xs.length xs.length hi - HT.sIx xs.length 0 lo)
theorem RepDs.drop:∀ {vs:List V} {ds:List D} (n:Nat),RepDs K H vs ds->RepDs K H (vs.drop n) (ds.drop n)
 | [],[],n,h=>by simp[RepDs.nil]
 | v::vs,d::ds,0,h=>h
 | v::vs,d::ds,n+1,h=>by unfold RepDs at h;exact RepDs.drop n h.2
 | [],d::ds,_,h=>by unfold RepDs at h;exact h.elim
 | v::vs,[],_,h=>by unfold RepDs at h;exact h.elim
theorem RepDs.take:∀ {vs:List V} {ds:List D} (n:Nat),RepDs K H vs ds->RepDs K H (vs.take n) (ds.take n)
 | [],[],n,h=>by simp[RepDs.nil]
 | v::vs,d::ds,0,h=>.nil
 | v::vs,d::ds,n+1,h=>by unfold RepDs at h;exact .cons h.1 (RepDs.take n h.2)
 | [],d::ds,_,h=>by unfold RepDs at h;exact h.elim
 | v::vs,[],_,h=>by unfold RepDs at h;exact h.elim
theorem e1u {vs:List V}{ds:List D}{lo hi:Option Int}(h:RepDs K H vs ds):RepDs K H (cutV vs lo hi) (cutD ds lo hi):=by
 unfold cutV cutD
 rw[h.length]
 exact(h.drop _).take _
def aSlL (a:AE)(l u:AO):AE:=fun ρ q=>a ρ fun r ρ1=>l ρ1 fun lo ρ2=>u ρ2 fun hi ρ3=>match view ρ3 r.frz with
 | some (.lst ds)=>q (.f (cutD ds lo hi)) ρ3
 | _=>False
theorem v0e {tl th:TO}{al au:AO}(ha:TEok K ta a)(hl:TOok K tl al)(hh:TOok K th au):TEok K (tSl (rSlL K) ta tl th) (aSlL a al au):=by
 intro F σ ρ H q Q r h k
 refine ha F σ ρ H _ _ r h fun r1 ρ1 x H1 h1 rel1=>?_
 obtain⟨r',k1,i1⟩:=rel1.inF
 refine hl F σ ρ1 H1 _ _ r' h1 fun lo ρ2 H2 h2 r2 k2=>?_
 refine hh F σ ρ2 H2 _ _ r2 h2 fun hi ρ3 H3 h3 r3 k3=>?_
 split at h3
 ·rename_i ds e
  obtain⟨p,vs,rfl,sq,rd⟩:=c0q r3 ((i1.keep k2).keep k3) e
  exact⟨p,vs,rfl,sq,fun p' hp=>(((k.after k1).after k2).after k3).new r3 h3 (e1u rd) hp⟩
 ·exact h3.elim
end
def d0t (ρ:En):R->Sv
 | .d d=>.vl d
 | .o j=>gt ρ j
 | .x s=>s
 | _=>.un
def Src (K:PySem.W.Frag)(F:Fr)(σ:St)(ρ:En)(H:Hp)(ov:Option V):R->Prop
 | .d d=>∃v,ov=some v/\RepD K (hid H (hs F σ ρ)) v d
 | .o j=>(σ[j]?).getD none=ov
 | .x s=>∃v,ov=some v/\s.own=false/\SvOk K (hid H (hs F σ ρ)) H (some (some v)) s
 | _=>True
inductive Srcs (K:PySem.W.Frag) (F:Fr) (σ:St) (ρ:En) (H:Hp):St->List R->Prop
 | nil:Srcs K F σ ρ H [] []
 | cons {v:Option V} {r:R} {vs:St} {rs:List R}:Src K F σ ρ H v r->Srcs K F σ ρ H vs rs->Srcs K F σ ρ H (v::vs) (r::rs)
def isO (j:Nat):R->Bool
 | .o i=>i==j
 | _=>false
def dis:List R->Bool
 | []=>true
 | .o j::rs=>rs.all (fun r=>!isO j r)&&dis rs
 | _::rs=>dis rs
theorem a1l:∀ {rs:List R} {k k' j:Nat},dis rs=true->rs[k]? = some (.o j)->rs[k']? = some (.o j)->k=k':=by
 intro rs
 induction rs with
 | nil=>intro k k' j _ h;simp at h
 | cons r rs ih =>
  intro k k' j hd h h'
  have hd':dis rs=true:=by
   cases r <;> simp[dis]at hd <;> first | exact hd.2 | exact hd
  have no:∀(m:Nat),r = .o j->rs[m]? = some (.o j)->False:=fun m e hm=>by
   subst e
   simp[dis]at hd
   have:=hd.1 _ (List.mem_of_getElem? hm)
   simp[isO]at this
  cases k with
  | zero =>
   cases k' with
   | zero=>rfl
   | succ k'=>simp at h h';exact(no k' h h').elim
  | succ k =>
   cases k' with
   | zero=>simp at h h';exact(no k h' h).elim
   | succ k'=>simp at h h';rw[ih hd' h h']
def back:En->List R->En->En
 | ρ,.o j::rs,s::ss=>back (pt ρ j s) rs ss
 | ρ,_::rs,_::ss=>back ρ rs ss
 | ρ,_,_=>ρ
theorem f0t:∀(rs:List R) (ρ ss:En),(back ρ rs ss).length=ρ.length
 | [],ρ,ss=>by cases ss <;> rfl
 | r::rs,ρ,[]=>by cases r <;> rfl
 | .o j::rs,ρ,s::ss=>by show(back (pt ρ j s) rs ss).length=_;rw[f0t,g0d]
 | .d d::rs,ρ,s::ss=>f0t rs ρ ss
 | .n d::rs,ρ,s::ss=>f0t rs ρ ss
 | .t d::rs,ρ,s::ss=>f0t rs ρ ss
 | .x d::rs,ρ,s::ss=>f0t rs ρ ss
theorem h0l:∀(rs:List R) (ρ ss:En) (i:Nat),(∀k:Nat,rs[k]? ≠ some (R.o i))->gt (back ρ rs ss) i=gt ρ i
 | [],ρ,ss,i,_=>by cases ss <;> rfl
 | r::rs,ρ,[],i,_=>by cases r <;> rfl
 | .o j::rs,ρ,s::ss,i,h=>by
  have ne:j≠i:=fun e=>h 0 (by simp[e])
  show gt (back (pt ρ j s) rs ss) i=_
  rw[h0l rs _ ss i (fun k z=>h (k+1) (by simpa using z)),b0z ρ j i s ne]
 | .d d::rs,ρ,s::ss,i,h=>h0l rs ρ ss i (fun k z=>h (k+1) (by simpa using z))
 | .n d::rs,ρ,s::ss,i,h=>h0l rs ρ ss i (fun k z=>h (k+1) (by simpa using z))
 | .t d::rs,ρ,s::ss,i,h=>h0l rs ρ ss i (fun k z=>h (k+1) (by simpa using z))
 | .x d::rs,ρ,s::ss,i,h=>h0l rs ρ ss i (fun k z=>h (k+1) (by simpa using z))
theorem i0m:∀(rs:List R) (ρ ss:En) (i k:Nat),dis rs=true->rs[k]? = some (.o i)->ss.length=rs.length->i<ρ.length->gt (back ρ rs ss) i=gt ss k
 | [],ρ,ss,i,k,_,h,_,_=>by simp at h
 | r::rs,ρ,[],i,k,_,_,e,_=>by simp at e
 | .o j::rs,ρ,s::ss,i,0,hd,h,e,l=>by
  simp at h;subst h
  simp[dis]at hd
  show gt (back (pt ρ j s) rs ss) j=s
  rw[h0l rs _ ss j (fun k z=>by have:=hd.1 _ (List.mem_of_getElem? z);simp[isO]at this),k0z ρ j s l]
 | .o j::rs,ρ,s::ss,i,k+1,hd,h,e,l=>by
  simp[dis]at hd
  exact i0m rs (pt ρ j s) ss i k hd.2 (by simpa using h) (by simpa using e) (by rw[g0d];exact l)
 | .d d::rs,ρ,s::ss,i,0,hd,h,e,l=>by simp at h
 | .n d::rs,ρ,s::ss,i,0,hd,h,e,l=>by simp at h
 | .t d::rs,ρ,s::ss,i,0,hd,h,e,l=>by simp at h
 | .x d::rs,ρ,s::ss,i,0,hd,h,e,l=>by simp at h
 | .d d::rs,ρ,s::ss,i,k+1,hd,h,e,l=>i0m rs ρ ss i k hd (by simpa using h) (by simpa using e) l
 | .n d::rs,ρ,s::ss,i,k+1,hd,h,e,l=>i0m rs ρ ss i k hd (by simpa using h) (by simpa using e) l
 | .t d::rs,ρ,s::ss,i,k+1,hd,h,e,l=>i0m rs ρ ss i k hd (by simpa using h) (by simpa using e) l
 | .x d::rs,ρ,s::ss,i,k+1,hd,h,e,l=>i0m rs ρ ss i k hd (by simpa using h) (by simpa using e) l
theorem p0i (ρ:En):∀(rs:List R) (k:Nat),gt (rs.map (d0t ρ)) k=(match rs[k]? with | some r=>d0t ρ r | none=>.un)
 | [],k=>by simp[gt]
 | r::rs,0=>by simp[gt]
 | r::rs,k+1=>by simp[gt,p0i ρ rs k]
section
variable {K:PySem.W.Frag}{F:Fr}{σ:St}{ρ ρ':En}{H H':Hp}{ovs:St}{rs:List R}
theorem Srcs.length (s:Srcs K F σ ρ H ovs rs):ovs.length=rs.length:=by
 induction s with
 | nil=>rfl
 | cons _ _ ih=>simp[ih]
theorem Srcs.get {k:Nat}{r:R}(s:Srcs K F σ ρ H ovs rs)(h:rs[k]? = some r):∃ov,ovs[k]? = some ov/\Src K F σ ρ H ov r:=by
 induction s generalizing k with
 | nil=>simp at h
 | cons a _ ih =>
  cases k with
  | zero=>simp at h;subst h;exact⟨_,rfl,a⟩
  | succ k=>obtain⟨ov,e,q⟩:=ih (by simpa using h);exact⟨ov,by simpa using e,q⟩
def f0z (F:Fr)(σ:St)(ρ:En)(H:Hp)(ovs:St)(ss:En):Fr :=
 ⟨H,fun a=>F.Z a∨(b0o σ ρ a/\¬b0o ovs ss a),fun a=>b0o ovs ss a,fun i a=>(gt ss i).own=true/\ovs[i]? = some (some (.ref a)),fun _ _=>False⟩
theorem q0h (s:Srcs K F σ ρ H ovs rs){k:Nat}(h:(gt (rs.map (d0t ρ)) k).own=true):∃j:Nat,rs[k]? = some (R.o j)/\(gt ρ j).own=true/\gt (rs.map (d0t ρ)) k=gt ρ j/\ovs[k]? = some ((σ[j]?).getD none):=by
 rw[p0i]at h
 cases e:rs[k]? with
 | none=>simp[e]at h;cases h
 | some r =>
  rw[e]at h
  cases r with
  | d d=>cases h
  | n d=>cases h
  | t d=>cases h
  | x d =>
   obtain⟨ov,_,_,_,hx,_⟩:=s.get e
   have h:d.own=true:=h
   rw[hx]at h;cases h
  | o j =>
   obtain⟨ov,e1,e2⟩:=s.get e
   exact⟨j,rfl,h,by rw[p0i,e];rfl,by rw[e1,show _=ov from e2]⟩
theorem n0d {x:Option (Option V)}{a:Addr}(h:some (x.getD none)=some (some (V.ref a))):x=some (some (.ref a)):=by
 cases x with
 | none=>simp at h
 | some y=>simpa using h
theorem d0s (s:Srcs K F σ ρ H ovs rs){a:Addr}(h:b0o ovs (rs.map (d0t ρ)) a):∃k j:Nat,rs[k]? = some (R.o j)/\(gt ρ j).own=true/\σ[j]? = some (some (V.ref a))/\ovs[k]? = some (some (V.ref a)):=by
 obtain⟨k,hk,e⟩:=h
 obtain⟨j,e1,e2,e3,e4⟩:=q0h s hk
 rw[e]at e4
 exact⟨k,j,e1,e2,n0d e4.symm,e⟩
theorem v0q (r:Rel K F σ ρ H)(s:Srcs K F σ ρ H ovs rs):hs (f0z F σ ρ H ovs (rs.map (d0t ρ))) ovs (rs.map (d0t ρ))=hs F σ ρ:=by
 funext a
 apply propext
 constructor
 ·rintro((h | h) | h)
  ·exact .inl h
  ·exact .inr h.1
  ·obtain⟨k,j,e1,e2,e3,_⟩:=d0s s h
   exact .inr ⟨j,e2,e3⟩
 ·rintro(h | h)
  ·exact .inl (.inl h)
  ·by_cases q:b0o ovs (rs.map (d0t ρ)) a
   ·exact .inr q
   ·exact .inl (.inr ⟨h,q⟩)
theorem Rel.sub (r:Rel K F σ ρ H)(s:Srcs K F σ ρ H ovs rs)(hd:dis rs=true):Rel K (f0z F σ ρ H ovs (rs.map (d0t ρ))) ovs (rs.map (d0t ρ)) H:=by
 refine⟨by rw[s.length,List.length_map],fun a o e _=>e,fun a z=>?_,fun a h z=>?_,fun i a hi e=>.inl ⟨⟨hi,e⟩,i,hi,e⟩,fun i a h=>?_,fun a h=>?_,fun a h=>?_,fun i j a hi hj ei ej=>?_,fun k=>?_⟩
 ·rcases z with z | z
  ·exact r.zl a z
  ·exact s0k r z.1
 ·obtain⟨k,j,e1,e2,e3,_⟩:=d0s s h
  rcases z with z | z
  ·exact r.zo a ⟨j,e2,e3⟩ z
  ·exact z.2 h
 ·rcases h with h | h
  ·exact h.2
  ·exact h.elim
 ·obtain⟨k,j,e1,e2,e3,_⟩:=d0s s h
  exact e0s r ⟨j,e2,e3⟩
 ·obtain⟨k,j,e1,e2,e3,_⟩:=d0s s h
  exact e0s r ⟨j,e2,e3⟩
 ·obtain⟨p,a1,a2,a3,a4⟩:=q0h s hi
  obtain⟨p',b1,b2,b3,b4⟩:=q0h s hj
  rw[ei]at a4
  rw[ej]at b4
  have:p=p':=r.nd p p' a a2 b2 (n0d a4.symm) (n0d b4.symm)
  subst this
  exact a1l hd a1 b1
 ·rw[v0q r s,p0i]
  cases e:rs[k]? with
  | none=>trivial
  | some x =>
   obtain⟨ov,e1,e2⟩:=s.get e
   cases x with
   | n d=>trivial
   | t d=>trivial
   | x d=>obtain⟨v,e3,_,e4⟩:=e2;rw[e1,e3];exact e4
   | d d=>obtain⟨v,e3,e4⟩:=e2;rw[e1,e3];exact⟨v,rfl,e4⟩
   | o j =>
    rw[e1]
    have q:=r.sl j
    show SvOk K _ H (some ov) (gt ρ j)
    rw[<- show(σ[j]?).getD none=ov from e2]
    cases e5:σ[j]? with
    | none =>
     rw[e5]at q
     cases hg:gt ρ j with
     | un=>trivial
     | vl d=>rw[hg]at q;obtain⟨x,z,_⟩:=q;cases z
     | ow d=>rw[hg]at q;obtain⟨x,_,z,_⟩:=q;cases z
     | tp d=>rw[hg]at q;obtain⟨x,_,_,_,_,z,_⟩:=q;cases z
     | dk d=>rw[hg]at q;obtain⟨x,_,z,_⟩:=q;cases z
     | dt d=>rw[hg]at q;obtain⟨x,_,z,_⟩:=q;cases z
     | ex d m=>rw[hg]at q;obtain⟨x,_,z,_⟩:=q;cases z
     | sc d=>rw[hg]at q;obtain⟨x,z,_⟩:=q;cases z
     | px d m k=>rw[hg]at q;obtain⟨x,_,_,_,z,_⟩:=q;cases z
     | xl es=>rw[hg]at q;obtain⟨x,_,z,_⟩:=q;cases z
    | some y=>rw[e5]at q;exact q
theorem Rel.back (r:Rel K F σ ρ H)(s:Srcs K F σ ρ H ovs rs)(hd:dis rs=true){ss':En}(r':Rel K (f0z F σ ρ H ovs (rs.map (d0t ρ))) ovs ss' H')(sb:∀i,(gt ss' i).own=true->(gt (rs.map (d0t ρ)) i).own=true) :
  Rel K F σ (L2.back ρ rs ss') H'/\Kp σ ρ (L2.back ρ rs ss') H H'/\Same (hid H' (hs (f0z F σ ρ H ovs (rs.map (d0t ρ))) ovs ss')) (hid H' (hs F σ (L2.back ρ rs ss'))):=by
 have ln:ss'.length=rs.length:=by rw[<- r'.len,s.length]
 have cs:∀i:Nat,(∃k:Nat,rs[k]? = some (R.o i)/\i<ρ.length/\gt (L2.back ρ rs ss') i=gt ss' k)∨((∀k:Nat,i<ρ.length->rs[k]? ≠ some (R.o i))/\gt (L2.back ρ rs ss') i=gt ρ i):=fun i=>by
  by_cases hi:i<ρ.length
  ·by_cases q:∃k:Nat,rs[k]? = some (R.o i)
   ·obtain⟨k,e⟩:=q
    exact .inl ⟨k,e,hi,i0m rs ρ ss' i k hd e ln hi⟩
   ·exact .inr ⟨fun k _ z=>q ⟨k,z⟩,h0l rs ρ ss' i fun k z=>q ⟨k,z⟩⟩
  ·refine .inr ⟨fun k z=>absurd z hi,?_⟩
   rw[l0t _ i (by rw[f0t];omega),l0t _ i (by omega)]
 have own':∀i,(gt (L2.back ρ rs ss') i).own=true->(gt ρ i).own=true:=fun i h=>by
  rcases cs i with⟨k,e,hi,g⟩ | ⟨_,g⟩
  ·rw[g]at h
   have:=sb k h
   rw[p0i,e]at this
   exact this
  ·rw[g]at h;exact h
 have subo:∀ {a},b0o σ (L2.back ρ rs ss') a->b0o σ ρ a:=fun⟨i,hi,e⟩=>⟨i,own' i hi,e⟩
 have no:∀a,¬b0o σ ρ a->¬b0o ovs (rs.map (d0t ρ)) a:=fun a h z=>by
  obtain⟨k,j,e1,e2,e3,_⟩:=d0s s z
  exact h ⟨j,e2,e3⟩
 have st:∀a o,H a=some o->¬b0o ovs (rs.map (d0t ρ)) a->H' a=some o:=fun a o e n=>r'.fr a o e n
 have hsub:∀a,hs F σ (L2.back ρ rs ss') a->hs (f0z F σ ρ H ovs (rs.map (d0t ρ))) ovs ss' a:=fun a h=>by
  rcases h with h | ⟨i,hi,e⟩
  ·exact .inl (.inl h)
  ·rcases cs i with⟨k,e1,hl,g⟩ | ⟨n,g⟩
   ·right
    rw[g]at hi
    obtain⟨ov,q1,q2⟩:=s.get e1
    refine⟨k,hi,?_⟩
    rw[q1,<- show(σ[i]?).getD none=ov from q2,e]
    rfl
   ·left;right
    rw[g]at hi
    refine⟨⟨i,hi,e⟩,fun z=>?_⟩
    obtain⟨k,j,e1,e2,e3,_⟩:=d0s s z
    have:i=j:=r.nd i j a hi e2 e e3
    subst this
    exact n k (j0v hi) e1
 have v1:Same (hid H' (hs (f0z F σ ρ H ovs (rs.map (d0t ρ))) ovs ss')) (hid H' (hs F σ (L2.back ρ rs ss'))):=b0f fun a o e n=>⟨e,fun z=>n (hsub a z)⟩
 have v2:Same (hid H (hs F σ ρ)) (hid H' (hs F σ (L2.back ρ rs ss'))):=b0f fun a o e n=>⟨st a o e (no a fun z=>n (.inr z)),fun z=>n (z.imp id subo)⟩
 refine⟨⟨by rw[f0t,r.len],fun a o e n=>?_,fun a z=>r'.zl a (.inl z),fun a h=>r.zo a (subo h),fun i a hi e=>r.ow i a (own' i hi) e,r.mi,r.ml,fun a z=>?_,fun i j a hi hj ei ej=>r.nd i j a (own' i hi) (own' j hj) ei ej,fun i=>?_⟩,⟨fun a o e n=>st a o e (no a n),own'⟩,v1⟩
 ·have e1:=r.fr a o e n
  refine st a o e1 fun z=>?_
  obtain⟨k,j,h1,h2,h3,_⟩:=d0s s z
  rcases r.ow j a h2 h3 with q | q
  ·exact n q.2
  ·rw[e]at q;cases q
 ·by_cases q:b0o ovs (rs.map (d0t ρ)) a
  ·exact r'.ma a q
  ·cases h:H a with
   | none=>exact absurd h (r.ma a z)
   | some o=>rw[st a o h q];exact fun z=>nomatch z
 ·rcases cs i with⟨k,e1,hl,g⟩ | ⟨n,g⟩
  ·rw[g]
   have q:=(r'.sl k).keep v1 fun _ _ _ _ e=>e
   obtain⟨ov,q1,q2⟩:=s.get e1
   rw[q1,<- show(σ[i]?).getD none=ov from q2]at q
   cases e5:σ[i]? with
   | none =>
    rw[e5]at q
    cases hg:gt ss' k with
    | un=>trivial
    | vl d=>rw[hg]at q;obtain⟨x,z,_⟩:=q;cases z
    | ow d=>rw[hg]at q;obtain⟨x,_,z,_⟩:=q;cases z
    | tp d=>rw[hg]at q;obtain⟨x,_,_,_,_,z,_⟩:=q;cases z
    | dk d=>rw[hg]at q;obtain⟨x,_,z,_⟩:=q;cases z
    | dt d=>rw[hg]at q;obtain⟨x,_,z,_⟩:=q;cases z
    | ex d m=>rw[hg]at q;obtain⟨x,_,z,_⟩:=q;cases z
    | sc d=>rw[hg]at q;obtain⟨x,z,_⟩:=q;cases z
    | px d m k=>rw[hg]at q;obtain⟨x,_,_,_,z,_⟩:=q;cases z
    | xl es=>rw[hg]at q;obtain⟨x,_,z,_⟩:=q;cases z
   | some y=>rw[e5]at q;exact q
  ·rw[g]
   refine(r.sl i).keep v2 fun l o ho e h=>st l o h fun z=>?_
   obtain⟨k,j,e1,e2,e3,_⟩:=d0s s z
   have:i=j:=r.nd i j l ho e2 e e3
   subst this
   exact n k (j0v ho) e1
end
abbrev ASp:=En->Ko->Prop
def F0 (vs:List V)(ss:En)(H:Hp)(Z:Addr->Prop):Fr:=⟨H,Z,fun a=>b0o (vs.map some) ss a,fun i a=>(gt ss i).own=true/\(vs.map some)[i]? = some (some (.ref a)),fun _ _=>False⟩
def spA (K:PySem.W.Frag)(S:ASp):Sp:=fun vs H Q _=>∃ss Z q,Rel K (F0 vs ss H Z) (vs.map some) ss H/\S ss q /\
 ∀r ss' v H',q r ss'->(∀i,(gt ss' i).own=true->(gt ss i).own=true)->(∀i,r ≠ .o i)->RelR K (F0 vs ss H Z) (vs.map some) ss' v H' r->Q v H'
def i1w (S:ASp)(as:AA):AE:=fun ρ q=>as ρ fun rs ρ1=>dis rs=true/\S (rs.map (d0t ρ1)) fun r ss'=>q r (back ρ1 rs ss')
section
variable {K:PySem.W.Frag}{F:Fr}{σ:St}{ρ ρ':En}{H H':Hp}{ovs:St}{rs:List R}
theorem InFs.srcs {vs:List V}(h:InFs K F σ ρ H vs rs):Srcs K F σ ρ H (vs.map some) rs:=by
 induction h with
 | nil=>exact .nil
 | cons a t ih =>
  rename_i v r vs rs
  refine .cons ?_ ih
  cases r with
  | d d=>exact⟨v,rfl,a⟩
  | o j=>show(σ[j]?).getD none=some v;rw[show σ[j]? = _ from a];rfl
  | n s=>trivial
  | t n=>trivial
  | x n=>exact⟨v,rfl,a⟩
theorem a0q {S:ASp}{E:XK}{ts:TA}{as:AA}(hs':TAok K ts as):TEok K (v0p (spA K S) [] E ts) (i1w S as):=by
 intro F σ ρ H q Q r h k
 refine hs' F σ ρ H _ _ r h fun rs ρ1 vs H1 h1 r1 i1 k1=>?_
 obtain⟨hd,hS⟩:=h1
 have s:=i1.srcs
 rw[List.append_nil]
 refine⟨rs.map (d0t ρ1),(f0z F σ ρ1 H1 (vs.map some) (rs.map (d0t ρ1))).Z,_,r1.sub s hd,hS,fun rr ss' v H' hq sb no out=>?_⟩
 refine(k.after k1) rr (back ρ1 rs ss') v H' hq ?_
 cases rr with
 | o i=>exact absurd rfl (no i)
 | d d =>
  obtain⟨a,b⟩:=out
  obtain⟨x,y,z⟩:=r1.back s hd a sb
  exact⟨x,y,RepD.same b z⟩
 | x sv =>
  obtain⟨a,b,c⟩:=out
  obtain⟨x,y,z⟩:=r1.back s hd a sb
  exact⟨x,y,b,c.keep z fun l o ho=>by rw[b]at ho;cases ho⟩
 | t n =>
  obtain⟨a,b⟩:=out
  obtain⟨x,y,z⟩:=r1.back s hd a sb
  exact⟨x,y,b⟩
 | n sv =>
  obtain⟨Hb,l,o,a,b,c,e1,e2,e3⟩:=out
  obtain⟨x,y,z⟩:=r1.back s hd a sb
  exact⟨Hb,l,o,x,y,b,c.keep z fun _ _ _ _ e=>e,e1,e2,e3⟩
end
section
variable {K:PySem.W.Frag}{F:Fr}{σ σ':St}{ρ ρ':En}{H H':Hp}
open Classical in
noncomputable def rebase (F:Fr)(σ:St)(ρ:En)(H:Hp)(pin:Nat->Bool):Fr :=
 ⟨fun a=>if b0o σ ρ a/\F.H0 a=none then none else H a,F.Z,fun a=>F.M a/\b0o σ ρ a,F.I,fun i a=>F.P i a∨(pin i=true/\σ[i]? = some (some (.ref a)))⟩
open Classical in
theorem j0m {pin:Nat->Bool}{a:Addr}{o:HO}(h:¬(b0o σ ρ a/\F.H0 a=none))(e:H a=some o):(rebase F σ ρ H pin).H0 a=some o:=by
 show(if b0o σ ρ a/\F.H0 a=none then none else H a)=some o
 rw[if_neg h];exact e
open Classical in
theorem g1q {pin:Nat->Bool}{a:Addr}{o:HO}(e:(rebase F σ ρ H pin).H0 a=some o):H a=some o:=by
 have e':(if b0o σ ρ a/\F.H0 a=none then none else H a)=some o:=e
 split at e'
 ·cases e'
 ·exact e'
open Classical in
theorem Rel.rebase (r:Rel K F σ ρ H)(pin:Nat->Bool):Rel K (L2.rebase F σ ρ H pin) σ ρ H where
 len:=r.len
 fr:=fun a o e _=>g1q e
 zl:=r.zl
 zo:=r.zo
 ow:=fun i a hi e=>by
  rcases r.ow i a hi e with⟨h1,h2⟩ | h
  ·exact .inl ⟨h1,h2,i,hi,e⟩
  ·refine .inr ?_
   show(if b0o σ ρ a/\F.H0 a=none then none else H a)=none
   rw[if_pos ⟨⟨i,hi,e⟩,h⟩]
 mi:=fun i a h=>by
  rcases h with h | h | h
  ·exact r.mi i a (.inl h)
  ·exact r.mi i a (.inr h)
  ·exact h.2
 ml:=fun a h=>by
  cases e:H a with
  | none=>exact absurd e (r.ma a h.1)
  | some o=>rw[j0m (fun z=>r.ml a h.1 z.2) e];exact fun z=>nomatch z
 ma:=fun a h=>r.ma a h.1
 nd:=r.nd
 sl:=r.sl
theorem Rel.unbase {pin:Nat->Bool}(r:Rel K F σ ρ H)(r':Rel K (L2.rebase F σ ρ H pin) σ' ρ' H'):Rel K F σ' ρ' H'/\Same (hid H (hs F σ ρ)) (hid H' (hs F σ' ρ')):=by
 refine⟨⟨r'.len,fun a o e n=>?_,r'.zl,r'.zo,fun i a hi e=>?_,fun i a h=>r'.mi i a (h.imp id .inl),r.ml,fun a h=>?_,r'.nd,r'.sl⟩,b0f fun a o e n=>?_⟩
 ·exact r'.fr a o (j0m (fun z=>by rw[e]at z;cases z.2) (r.fr a o e n)) fun z=>n z.1
 ·rcases r'.ow i a hi e with⟨h1,h2⟩ | h
  ·exact .inl ⟨h1,h2.1⟩
  ·right
   cases h0:F.H0 a with
   | none=>rfl
   | some o =>
    exfalso
    have nn:H a≠none:=by
     by_cases q:F.M a
     ·exact r.ma a q
     ·rw[r.fr a o h0 q];exact fun z=>nomatch z
    cases e2:H a with
    | none=>exact nn e2
    | some u =>
     rw[j0m (fun z=>by rw[h0]at z;cases z.2) e2]at h
     cases h
 ·by_cases q:b0o σ ρ a
  ·exact r'.ma a ⟨h,q⟩
  ·cases e:H a with
   | none=>exact absurd e (r.ma a h)
   | some o=>rw[r'.fr a o (j0m (fun z=>q z.1) e) fun z=>q z.2];exact fun z=>nomatch z
 ·have n':¬b0o σ ρ a:=fun z=>n (.inr z)
  have e0:=j0m (F:=F) (pin:=pin) (fun z=>n' z.1) e
  refine⟨r'.fr a o e0 fun z=>n' z.2,fun z=>?_⟩
  rcases z with z | ⟨i,hi,ei⟩
  ·exact n (.inl z)
  ·rcases r'.ow i a hi ei with⟨_,h2⟩ | h
   ·exact n' h2.2
   ·rw[e0]at h;cases h
theorem RelR.unbase {pin:Nat->Bool}{v:V}{rr:R}(r:Rel K F σ ρ H)(r':RelR K (L2.rebase F σ ρ H pin) σ' ρ' v H' rr):RelR K F σ' ρ' v H' rr:=by
 cases rr with
 | d d=>exact⟨(r.unbase r'.1).1,r'.2⟩
 | o d=>exact⟨(r.unbase r'.1).1,r'.2⟩
 | t d=>exact⟨(r.unbase r'.1).1,r'.2⟩
 | x d=>exact⟨(r.unbase r'.1).1,r'.2⟩
 | n s =>
  obtain⟨Hb,l,o,a,b,c,e⟩:=r'
  exact⟨Hb,l,o,(r.unbase a).1,b,c,e⟩
end
structure a1z (K:PySem.W.Frag)(F:Fr)(D:Ends)(e:AEnds):Prop where
 nx:∀ σ' ρ' H',e.nx ρ'->Rel K F σ' ρ' H'->D.nx σ' H'
 bk:∀ σ' ρ' H',e.bk ρ'->Rel K F σ' ρ' H'->D.bk σ' H'
 ct:∀ σ' ρ' H',e.ct ρ'->Rel K F σ' ρ' H'->D.ct σ' H'
 rt:∀ σ' ρ' r v H',e.rt r ρ'->RelR K F σ' ρ' v H' r->D.rt v H'
def TSok (K:PySem.W.Frag)(pr:Nat->Bool)(t:TS)(a:AS):Prop:=∀F σ ρ H D e,(∀i a,F.pin i a->pr i=true)->Rel K F σ ρ H->a e ρ->a1z K F D e->t D σ H
abbrev AG:=D->En->(En->Prop)->Prop
abbrev AGs:=List D->En->(En->Prop)->Prop
def TGok (K:PySem.W.Frag)(pr:Nat->Bool)(g:TG)(ag:AG):Prop:=∀F σ ρ H v d k Q,(∀i a,F.pin i a->pr i=true)->Rel K F σ ρ H->RepD K (hid H (hs F σ ρ)) v d->ag d ρ k ->
 (∀ σ' ρ',k ρ'->Rel K F σ' ρ' H->σ'.length=σ.length->(∀i,pr i=true->σ'[i]? = σ[i]?)->(∀i,(gt ρ' i).own=true->(gt ρ i).own=true/\σ'[i]? = σ[i]?)->Q σ' H)->g v σ H Q
def a1w (K:PySem.W.Frag)(pr:Nat->Bool)(n:Nat)(g:TGs)(ag:AGs):Prop:=(∀ds ρ k,ag ds ρ k->ds.length=n)/\∀F σ ρ H vs ds k Q,(∀i a,F.pin i a->pr i=true)->Rel K F σ ρ H->RepDs K (hid H (hs F σ ρ)) vs ds->ag ds ρ k ->
 (∀ σ' ρ',k ρ'->Rel K F σ' ρ' H->σ'.length=σ.length->(∀i,pr i=true->σ'[i]? = σ[i]?)->(∀i,(gt ρ' i).own=true->(gt ρ i).own=true/\σ'[i]? = σ[i]?)->Q σ' H)->g vs σ H Q
section
variable {K:PySem.W.Frag}{pr:Nat->Bool}{t u:TS}{a b:AS}{te:TE}{ae:AE}{tt:TT}{at':AT}
theorem d1x {F:Fr}{i:Nat}(hp:∀i a,F.pin i a->pr i=true)(h:pr i=false):∀a,¬F.pin i a:=fun a z=>by rw[hp i a z]at h;cases h
def s0y (i:Nat):AG:=fun d ρ k=>k (pt ρ i (.vl d))
theorem a0l {i:Nat}(h:pr i=false):TGok K pr (a1e i) (s0y i):=by
 intro F σ ρ H v d k Q hp r hd ha kk
 refine kk _ _ ha (r.set hd (d1x hp h)) (by rw[List.length_set]) (fun j hj=>?_) fun j hj=>?_
 ·rw[List.getElem?_set_ne];rintro rfl;rw[h]at hj;cases hj
 ·obtain⟨ne,q⟩:=e0d rfl hj
  exact⟨q,by rw[List.getElem?_set_ne ne]⟩
def gaNil:AGs:=fun ds ρ k=>match ds with
 | []=>k ρ
 | _=>False
def x0i (g:AG)(gs:AGs):AGs:=fun ds ρ k=>match ds with
 | d::r=>g d ρ fun ρ1=>gs r ρ1 k
 | []=>False
theorem e0y:a1w K pr 0 gNil gaNil:=by
 refine⟨fun ds ρ k h=>?_,?_⟩
 ·cases ds with
  | nil=>rfl
  | cons _ _=>exact h.elim
 intro F σ ρ H vs ds k Q hp r hd ha kk
 cases ds with
 | cons _ _=>exact ha.elim
 | nil =>
  cases vs with
  | nil=>exact⟨rfl,kk _ _ ha r rfl (fun _ _=>rfl) fun _ h=>⟨h,rfl⟩⟩
  | cons v vs=>unfold RepDs at hd;exact hd.elim
theorem d1r {F:Fr}{σ σ':St}{ρ ρ':En}{H:Hp}(h:∀i,(gt ρ' i).own=true->(gt ρ i).own=true/\σ'[i]? = σ[i]?):Same (hid H (hs F σ ρ)) (hid H (hs F σ' ρ')):=b0f fun a o e n=>⟨e,fun z=>by
 rcases z with z | ⟨i,hi,ei⟩
 ·exact n (.inl z)
 ·obtain⟨q1,q2⟩:=h i hi
  exact n (.inr ⟨i,q1,q2▸ei⟩)⟩
theorem b0v {g:TG}{gs:TGs}{ag:AG}{ags:AGs}{n:Nat}(h:TGok K pr g ag)(hs':a1w K pr n gs ags)(gl:∀d ρ k,ag d ρ k->∃ ρ',k ρ'):a1w K pr (n+1) (i1c g gs) (x0i ag ags):=by
 refine⟨fun ds ρ k ha=>?_,?_⟩
 ·cases ds with
  | nil=>exact ha.elim
  | cons d ds=>obtain⟨ρ',q⟩:=gl _ _ _ ha;rw[List.length_cons,hs'.1 _ _ _ q]
 intro F σ ρ H vs ds k Q hp r hd ha kk
 cases ds with
 | nil=>exact ha.elim
 | cons d ds =>
  cases vs with
  | nil=>unfold RepDs at hd;exact hd.elim
  | cons v vs =>
   unfold RepDs at hd
   refine⟨v,vs,rfl,h F σ ρ H v d _ _ hp r hd.1 ha fun σ1 ρ1 h1 r1 l1 p1 o1=>?_⟩
   refine hs'.2 F σ1 ρ1 H vs ds _ _ hp r1 (hd.2.same (d1r o1)) h1 fun σ2 ρ2 h2 r2 l2 p2 o2=>?_
   refine kk _ _ h2 r2 (l2.trans l1) (fun i hi=>(p2 i hi).trans (p1 i hi)) fun i hi=>?_
   obtain⟨a1,a2⟩:=o2 i hi
   obtain⟨b1,b2⟩:=o1 i a1
   exact⟨b1,a2.trans b2⟩
def e1o (n:Nat)(gs:AGs):AG:=fun d ρ k=>match d with
 | .tup ds=>gs ds ρ k
 | _=>False
theorem e0f {i:Nat}{d:D}{ρ:En}{k:En->Prop}(h:s0y i d ρ k):∃ ρ',k ρ':=⟨_,h⟩
theorem g0n {gs:TGs}{ags:AGs}{n:Nat}(hs':a1w K pr n gs ags):TGok K pr (gTup K n gs) (e1o n ags):=by
 intro F σ ρ H v d k Q hp r hd ha kk
 unfold e1o at ha
 split at ha
 ·rename_i ds
  unfold RepD at hd
  obtain⟨p,vs,rfl,sq,rd⟩:=hd
  exact⟨p,vs,rfl,c0i.seqT sq.sq,by rw[rd.length];exact hs'.1 _ _ _ ha,hs'.2 F σ ρ H vs ds k Q hp r rd ha kk⟩
 ·exact ha.elim
def aNext:AS:=fun e ρ=>e.nx ρ
def aSeq (a b:AS):AS:=fun e ρ=>a {e with nx:=b e} ρ
theorem b0k:TSok K pr tNext aNext:=fun F σ ρ H D e hp r h k=>k.nx _ _ _ h r
theorem a0k (ha:TSok K pr t a)(hb:TSok K pr u b):TSok K pr (tSeq t u) (aSeq a b):=fun F σ ρ H D e hp r h k =>
 ha F σ ρ H _ _ hp r h ⟨fun σ' ρ' H' h' r'=>hb F σ' ρ' H' D e hp r' h' k,k.bk,k.ct,k.rt⟩
def j1u (x:AE):AS:=fun e ρ=>x ρ fun _ ρ1=>e.nx ρ1
theorem f0k (h:TEok K te ae):TSok K pr (g1h te) (j1u ae):=fun F σ ρ H D e hp r ha k =>
 h F σ ρ H _ _ r ha fun r1 ρ1 v H1 h1 o=>k.nx _ _ _ h1 o.inF.1
def aRet (x:AE):AS:=fun e ρ=>x ρ e.rt
theorem b0g (h:TEok K te ae):TSok K pr (tRet te) (aRet ae):=fun F σ ρ H D e hp r ha k =>
 h F σ ρ H _ _ r ha fun r1 ρ1 v H1 h1 o=>k.rt _ _ _ _ _ h1 o.rel
def aIfS (c:AT)(a b:AS):AS:=fun e ρ=>c ρ fun k ρ1=>if k=true then a e ρ1 else b e ρ1
theorem d0i (hc:TTok K tt at')(ha:TSok K pr t a)(hb:TSok K pr u b):TSok K pr (tIfS tt t u) (aIfS at' a b):=by
 intro F σ ρ H D e hp r h k
 refine hc F σ ρ H _ _ r h fun c ρ1 H1 h1 r1 k1=>?_
 cases c with
 | true=>exact ha F σ ρ1 H1 D e hp r1 h1 k
 | false=>exact hb F σ ρ1 H1 D e hp r1 h1 k
def stS (i:Nat):R->En->(En->Prop)->Prop
 | .d d,ρ,k=>k (pt ρ i (.vl d))
 | .n s,ρ,k=>k (pt ρ i s)
 | .o j,ρ,k=>(match gt ρ j with
  | .ow ds=>k (pt (pt ρ j (.vl (.lst ds))) i (.vl (.lst ds)))
  | .vl d=>k (pt ρ i (.vl d))
  | .ex C fs=>k (pt ρ i (.ex C fs))
  | _=>False)
 | .t _,_,_=>False
 | .x s,ρ,k=>k (pt ρ i s)
def aSet (i:Nat)(x:AE):AS:=fun e ρ=>x ρ fun r ρ1=>stS i r ρ1 e.nx
theorem b1s {i:Nat}(hi:pr i=false)(h:TEok K te ae):TSok K pr (fun D σ H=>te σ H fun v H'=>D.nx (σ.set i (some v)) H') (aSet i ae):=by
 intro F σ ρ H D e hp r ha k
 refine h F σ ρ H _ _ r ha fun r1 ρ1 v H1 h1 o=>?_
 have np:=d1x hp hi
 cases r1 with
 | d d=>exact k.nx _ _ _ h1 (o.1.set o.2.2 np)
 | t n=>exact h1.elim
 | x s=>exact k.nx _ _ _ h1 (o.1.setS o.2.2.1 o.2.2.2 np)
 | n s =>
  obtain⟨Hb,l,u,a1,a2,a3,a4,a5,rfl,rfl⟩:=o
  exact k.nx _ _ _ h1 (a1.setF a3 a4 a5 np)
 | o j =>
  obtain⟨r1,k1,ej⟩:=o
  have h2:(match gt ρ1 j with
   | .ow ds=>e.nx (pt (pt ρ1 j (.vl (.lst ds))) i (.vl (.lst ds)))
   | .vl d=>e.nx (pt ρ1 i (.vl d))
   | .ex C fs=>e.nx (pt ρ1 i (.ex C fs))
   | _=>False):=h1
  clear h1
  split at h2
  ·rename_i ds hg
   obtain⟨l,el,r2,k2,rd⟩:=r1.frz hg
   rw[ej]at el
   injection el with el;injection el with el;subst el
   exact k.nx _ _ _ h2 (r2.set rd np)
  ·rename_i d hg
   have q:=r1.sl j
   rw[hg]at q
   obtain⟨x,e1,e2⟩:=q
   rw[ej]at e1
   injection e1 with e1;injection e1 with e1;subst e1
   exact k.nx _ _ _ h2 (r1.set e2 np)
  ·rename_i C fs hg
   have q:=r1.sl j
   rw[hg,ej]at q
   exact k.nx _ _ _ h2 (r1.setS rfl q np)
  ·exact h2.elim
theorem a0u {i:Nat}(h:TEok K te ae)(hi:pr i=false):TSok K pr (tAsg te (a1e i)) (aSet i ae):=b1s hi h
theorem g0o {i n:Nat}{js:List Nat}{wi:TI}{g:TG}{tc:TT}(h:TEok K (q0g n js wi g tc te) ae)(hi:pr i=false):TSok K pr (fun D σ H=>q0g n js wi g tc te σ H fun v H'=>D.nx (σ.set i (some v)) H') (aSet i ae):=b1s hi h
def aAsg (x:AE)(g:AG):AS:=fun e ρ=>x ρ fun r ρ1=>sto [r.frz] ρ1 fun ds ρ2=>match ds with
 | [d]=>g d ρ2 e.nx
 | _=>False
theorem m0h {g:TG}{ag:AG}(h:TEok K te ae)(hg:TGok K pr g ag):TSok K pr (tAsg te g) (aAsg ae ag):=by
 intro F σ ρ H D e hp r ha k
 refine h F σ ρ H _ _ r ha fun r1 ρ1 v H1 h1 o=>?_
 obtain⟨r',k1,i1⟩:=o.inF
 obtain⟨ds,ρ2,h2,r2,k2,rd⟩:=h0a r' (.cons i1 .nil) h1
 split at h2
 ·rename_i d
  unfold RepDs at rd
  exact hg F σ ρ2 H1 v d _ _ hp r2 rd.1 h2 fun σ3 ρ3 h3 r3 _ _ _=>k.nx _ _ _ h3 r3
 ·exact h2.elim
def whA (c:AT)(b:AS)(e:AEnds):Nat->En->Prop
 | 0,_=>False
 | n+1,ρ=>c ρ fun k ρ1=>if k=true then b {nx:=whA c b e n,ct:=whA c b e n,bk:=e.nx,rt:=e.rt} ρ1 else e.nx ρ1
def c1o (c:AT)(b:AS):AS:=fun e ρ=>∃n,whA c b e n ρ
theorem j0k (hc:TTok K tt at')(hb:TSok K pr t a):TSok K pr (v0n tt t) (c1o at' a):=by
 intro F σ ρ H D e hp r ha k
 obtain⟨n,ha⟩:=ha
 refine⟨fun m σ H=>∃ ρ,Rel K F σ ρ H/\whA at' a e m ρ,⟨n,ρ,r,ha⟩,fun m σ H ⟨ρ,r,h⟩=>?_⟩
 cases m with
 | zero=>exact h.elim
 | succ m =>
  refine hc F σ ρ H _ _ r h fun c ρ1 H1 h1 r1 k1=>?_
  cases c with
  | false=>exact k.nx _ _ _ h1 r1
  | true =>
   refine⟨fun σ' H'=>∃ ρ',Rel K F σ' ρ' H'/\whA at' a e m ρ',fun σ' H' h'=>⟨m,Nat.lt_succ_self m,h'⟩,?_⟩
   exact hb F σ ρ1 H1 _ _ hp r1 h1 ⟨fun σ' ρ' H' h' r'=>⟨ρ',r',h'⟩,k.nx,fun σ' ρ' H' h' r'=>⟨ρ',r',h'⟩,k.rt⟩
abbrev AI:=En->(List D->(En->Prop)->En->Prop)->Prop
def WkAt (K:PySem.W.Frag)(S:Addr->Prop)(H:Hp)(J:It)(ds:List D):Prop:=∀k:Nat,(∀d,ds[k]? = some d->J.go k H/\∀x H',J.yld k H x H'->Same H H'/\RepD K (hid H' S) x d)/\(ds.length<=k->J.stop k H)
def TIok (K:PySem.W.Frag)(pin:Nat->Bool)(wi:TI)(ai:AI):Prop:=∀F σ ρ H q Rk,Rel K F σ ρ H->ai ρ q->(∀ds c ρ' J H',q ds c ρ'->Rel K F σ ρ' H'->Kp σ ρ ρ' H H' ->
 (∀ σ2 ρ2 H2,Same (hid H' (hs F σ ρ')) (hid H2 (hs F σ2 ρ2))->(∀i,SvOk K (hid H2 (hs F σ2 ρ2)) H2 σ2[i]? (gt ρ2 i))->(∀j a,pin j=true->σ[j]? = some (some (.ref a))->σ2[j]? = some (some (.ref a)))->(∀a,hs F σ2 ρ2 a->Nt H2 a)->c ρ2->WkAt K (hs F σ2 ρ2) H2 J ds)->Rk J H')->wi σ H Rk
def rngD (lo:Int)(n:Nat):List D:=(List.range n).map fun(i:Nat)=>D.int (lo+(i:Nat))
theorem e0v (lo:Int)(n:Nat):(rngD lo n).length=n:=by simp[rngD]
theorem f1x {S:Addr->Prop}{H:Hp}{lo:Int}{n:Nat}:WkAt K S H (Itr lo n) (rngD lo n):=by
 intro k
 constructor
 ·intro d h
  unfold rngD at h
  rw[List.getElem?_map]at h
  obtain⟨j,e1,e2⟩:=Option.map_eq_some_iff.mp h
  have lt:k<n:=by
   rcases Nat.lt_or_ge k n with q | q
   ·exact q
   ·rw[List.getElem?_eq_none (by simpa using q)]at e1;cases e1
  rw[List.getElem?_range lt]at e1
  cases e1
  refine⟨lt,fun x H' z=>⟨z.1▸Same.refl H,?_⟩⟩
  rw[z.2,<- e2]
  unfold RepD;rfl
 ·intro h;rw[e0v]at h;exact h
def j1r (as:AA):AI:=fun ρ q=>as ρ fun rs ρ1=>match rs with
 | [.d (.int j)]=>(-(2^62)<=j/\j<2^62)/\q (rngD 0 j.toNat) (fun _=>True) ρ1
 | _=>False
theorem d0r {pin:Nat->Bool}{ta:TA}{as:AA}(h:TAok K ta as):TIok K pin (h1w ta) (j1r as):=by
 intro F σ ρ H q Rk r ha k
 refine h F σ ρ H _ _ r ha fun rs ρ1 vs H1 h1 r1 i1 k1=>?_
 split at h1
 ·obtain⟨x,rfl,i⟩:=i1.one
  exact⟨_,by rw[i.int],h1.1.1,h1.1.2,k _ _ _ _ _ h1.2 r1 k1 fun _ _ _ _ _ _ _ _=>f1x⟩
 ·exact h1.elim
def iSeq (K:PySem.W.Frag)(tl:TE):TI:=fun σ H R=>tl σ H fun x H1=>∃a,x = .ref a/\(((∃xs,SqL K H1 a xs)/\R (Itl K a) H1)∨((∃xs,SqT K H1 a xs)/\R (Itt K a) H1))
theorem g1v {X:Cx}{tg l:Expr}{tl:TE}(hl:PE X l tl):PI X tg l (iSeq X.K tl):=by
 intro pins s σ H R I h
 refine thn (hl pins s σ H _ I h) fun v s1 ⟨x,H1,I1,r1,q1⟩=>?_
 obtain⟨a,e,⟨⟨xs,hq⟩,q⟩ | ⟨⟨xs,hq⟩,q⟩⟩:=q1
 ·subst e
  cases r1
  obtain⟨its,rv,p,hz⟩:=I1.list hq
  refine wpAny_pyIter_list p.isList ?_
  refine⟨s1.heap.objs.size,[s1.heap.objs.size],_,_,H1,rfl,I1.kept (t':=s1.toks) fun b o e=>Heap.get?_push_of_some _ e,v0a a _,⟨_,Heap.get?_push_size _ rfl,rfl,rfl⟩,fun b hb=>?_,q⟩
  have e:b=s1.heap.objs.size:=by simpa using hb
  subst e
  exact I1.fpOk (Nat.le_refl _) (I1.hok.fresh (Nat.le_refl _))
 ·subst e
  cases r1
  obtain⟨its,rv,p,hz⟩:=I1.tuple hq
  refine wpAny_pyIter_tuple (show s1.heap.IsTuple a its.toArray from p) ?_
  refine⟨s1.heap.objs.size,[s1.heap.objs.size],_,_,H1,rfl,I1.kept (t':=s1.toks) fun b o e=>Heap.get?_push_of_some _ e,t0o a _,⟨_,Heap.get?_push_size _ rfl,rfl,rfl⟩,fun b hb=>?_,q⟩
  have e:b=s1.heap.objs.size:=by simpa using hb
  subst e
  exact I1.fpOk (Nat.le_refl _) (I1.hok.fresh (Nat.le_refl _))
theorem b0u (K:PySem.W.Frag){X:Cx}{tg l:Expr}{tl:TE}(hl:PE X l tl)(hK:X.K=K:=by rfl):PI X tg l (iSeq K tl):=by subst hK;exact g1v hl
theorem b1l {S:Addr->Prop}{H:Hp}{a:Addr}{vs:List V}{ds:List D}(h:SqL K H a vs)(rd:RepDs K (hid H S) vs ds):WkAt K S H (Itl K a) ds:=by
 intro k
 constructor
 ·intro d e
  obtain⟨v,e1,rv⟩:=rd.get e
  refine⟨⟨vs,v,h,e1⟩,fun x H' z=>⟨z.1▸Same.refl H,?_⟩⟩
  have:=z.2 vs h
  rw[e1]at this;cases this;rw[z.1];exact rv
 ·intro z;exact⟨vs,h,by rw[rd.length];exact z⟩
theorem f1w {S:Addr->Prop}{H:Hp}{a:Addr}{vs:List V}{ds:List D}(h:SqT K H a vs)(rd:RepDs K (hid H S) vs ds):WkAt K S H (Itt K a) ds:=by
 intro k
 constructor
 ·intro d e
  obtain⟨v,e1,rv⟩:=rd.get e
  refine⟨⟨vs,v,h,e1⟩,fun x H' z=>⟨z.1▸Same.refl H,?_⟩⟩
  have:=z.2 vs h
  rw[e1]at this;cases this;rw[z.1];exact rv
 ·intro z;exact⟨vs,h,by rw[rd.length];exact z⟩
def j1q (pin:Nat->Bool)(x:AE):AI:=fun ρ q=>x ρ fun r ρ1=>match r.frz with
 | .d (.lst ds)=>q ds (fun _=>True) ρ1
 | .d (.tup ds)=>q ds (fun _=>True) ρ1
 | .o i=>(match gt ρ1 i with
  | .ow ds=>pin i=true/\q ds (fun ρ2=>gt ρ2 i = .ow ds) ρ1
  | _=>False)
 | _=>False
theorem b0i {pin:Nat->Bool}(h:TEok K te ae):TIok K pin (iSeq K te) (j1q pin ae):=by
 intro F σ ρ H q Rk r ha k
 refine h F σ ρ H _ _ r ha fun r1 ρ1 x H1 h1 o1=>?_
 obtain⟨r',k1,i1⟩:=o1.inF
 split at h1
 ·rename_i ds e
  rw[e]at i1
  have rd:RepD K _ x (.lst ds):=i1
  unfold RepD at rd
  obtain⟨a,vs,rfl,sq,rd⟩:=rd
  refine⟨a,rfl,.inl ⟨⟨vs,c0i.seq (StL.sq sq)⟩,k _ _ _ _ _ h1 r' k1 fun σ2 ρ2 H2 sm _ _ _ _=>?_⟩⟩
  exact b1l (c0i.seq (sm.seq (StL.sq sq))) (rd.same sm)
 ·rename_i ds e
  rw[e]at i1
  have rd:RepD K _ x (.tup ds):=i1
  unfold RepD at rd
  obtain⟨a,vs,rfl,sq,rd⟩:=rd
  refine⟨a,rfl,.inr ⟨⟨vs,c0i.seqT sq.sq⟩,k _ _ _ _ _ h1 r' k1 fun σ2 ρ2 H2 sm _ _ _ _=>?_⟩⟩
  exact f1w (c0i.seqT (sm.seqT sq.sq)) (rd.same sm)
 ·rename_i i e
  rw[e]at i1
  have ei:σ[i]? = some (some x):=i1
  split at h1
  ·rename_i ds hg
   have s:=r'.sl i
   rw[hg,ei]at s
   obtain⟨a,vs,e1,hl,rd⟩:=s
   injection e1 with e1;injection e1 with e1;subst e1
   refine⟨a,rfl,.inl ⟨⟨vs,SqL.of hl⟩,k _ _ _ _ _ h1.2 r' k1 fun σ2 ρ2 H2 sm sv pn _ hc=>?_⟩⟩
   have s2:=sv i
   rw[hc,pn i a h1.1 ei]at s2
   obtain⟨a',vs',e2,hl',rd'⟩:=s2
   injection e2 with e2;injection e2 with e2;injection e2 with e2;subst e2
   exact b1l (SqL.of hl') rd'
  ·exact h1.elim
 ·exact h1.elim
def forA (c:En->Prop)(g:AG)(b:AS)(e:AEnds):List D->En->Prop
 | [],ρ=>c ρ/\e.nx ρ
 | d::ds,ρ=>c ρ/\g d ρ fun ρ1=>b {nx:=forA c g b e ds,ct:=forA c g b e ds,bk:=e.nx,rt:=e.rt} ρ1
def aFor (i:AI)(g:AG)(b:AS):AS:=fun e ρ=>i ρ fun ds c ρ1=>forA c g b e ds ρ1
theorem e0l {pin:Nat->Bool}{wi:TI}{ai:AI}{g:TG}{ag:AG}(hi:TIok K pin wi ai)(hg:TGok K (fun j=>pr j||pin j) g ag)(hb:TSok K (fun j=>pr j||pin j) t a):TSok K pr (tFor wi g t) (aFor ai ag a):=by
 intro F σ ρ H D e hp r ha k
 refine hi F σ ρ H _ _ r ha fun ds c ρ1 J H1 h1 r1 k1 wk=>?_
 have hp':∀i a,(rebase F σ ρ1 H1 pin).pin i a->(pr i||pin i)=true:=fun i a h=>by
  rcases h with h | h | h
  ·rw[hp i a (.inl h)];rfl
  ·rw[hp i a (.inr h)];rfl
  ·rw[h.1];cases pr i <;> rfl
 have ek:a1z K (rebase F σ ρ1 H1 pin) D e:=⟨fun _ _ _ h' r'=>k.nx _ _ _ h' (r1.unbase r').1,fun _ _ _ h' r'=>k.bk _ _ _ h' (r1.unbase r').1,fun _ _ _ h' r'=>k.ct _ _ _ h' (r1.unbase r').1,fun _ _ _ _ _ h' r'=>k.rt _ _ _ _ _ h' (RelR.unbase r1 r')⟩
 refine⟨fun i m σ' H'=>∃ ρ',m=ds.length - i/\i<=ds.length/\Rel K (rebase F σ ρ1 H1 pin) σ' ρ' H'/\forA c ag a e (ds.drop i) ρ',⟨ds.length,ρ1,rfl,Nat.zero_le _,r1.rebase pin,h1⟩,?_⟩
 rintro i m σ' H' ⟨ρ',rfl,hl,r',h'⟩
 have w:c ρ'->WkAt K (hs F σ' ρ') H' J ds:=fun hc=>wk σ' ρ' H' (r1.unbase r').2 r'.sl (fun j x hj ej=>r'.mi j x (.inr (.inr ⟨hj,ej⟩))) (fun a z=>x0g r' z) hc
 rcases Nat.lt_or_ge i ds.length with q | q
 ·right
  rw[List.drop_eq_getElem_cons q]at h'
  unfold forA at h'
  obtain⟨hc,h'⟩:=h'
  obtain⟨go,yld⟩:=(w hc i).1 ds[i] (List.getElem?_eq_getElem q)
  refine⟨go,fun σ2 H2=>∃ ρ2,Rel K (rebase F σ ρ1 H1 pin) σ2 ρ2 H2/\forA c ag a e (ds.drop (i+1)) ρ2,fun σ2 H2 ⟨ρ2,r2,h2⟩=>⟨ds.length - (i+1),by omega,ρ2,rfl,q,r2,h2⟩,fun x H2 hy=>?_⟩
  obtain⟨sm,rd⟩:=yld x H2 hy
  refine hg _ σ' ρ' _ x _ _ _ hp' (r'.grow sm) rd h' fun σ3 ρ3 h3 r3 _ _ _=>?_
  exact hb _ σ3 ρ3 _ _ _ hp' r3 h3 ⟨fun σ' ρ' H' h' r'=>⟨ρ',r',h'⟩,ek.nx,fun σ' ρ' H' h' r'=>⟨ρ',r',h'⟩,ek.rt⟩
 ·left
  rw[List.drop_eq_nil_of_le q]at h'
  unfold forA at h'
  obtain⟨hc,h'⟩:=h'
  exact⟨(w hc i).2 q,ek.nx _ _ _ h' r'⟩
end
def blkE (n:Nat)(js:List Nat)(ρ:En):En:=List.replicate n .un++js.map (gt ρ)
def blkR (n:Nat)(js:List Nat):List R:=List.replicate n (R.t "")++js.map R.o
theorem d0e (n:Nat)(js:List Nat)(ρ:En):(blkR n js).map (d0t ρ)=blkE n js ρ:=by
 unfold blkR blkE
 rw[List.map_append,List.map_replicate,List.map_map]
 rfl
theorem n0p (js:List Nat):∀n,dis (blkR n js)=dis (js.map R.o)
 | 0=>rfl
 | n+1=>by
  show dis (R.t "" :: blkR n js)=_
  exact n0p js n
theorem p0v (js:List Nat)(ρ:En)(n:Nat):∀ss:En,ss.length=n+js.length->back ρ (blkR n js) ss=back ρ (js.map R.o) (ss.drop n):=by
 induction n with
 | zero=>intro ss _;rfl
 | succ n ih =>
  intro ss h
  cases ss with
  | nil=>simp at h;omega
  | cons s ss=>exact ih ss (by simp at h;omega)
theorem t0k {n:Nat}{js:List Nat}{ρ:En}{i:Nat}(h:(gt (blkE n js ρ) i).own=true):n<=i:=by
 rcases Nat.lt_or_ge i n with q | q
 ·exfalso
  have:∀(n i:Nat) (x:En),i<n->gt (List.replicate n Sv.un++x) i = .un:=by
   intro n
   induction n with
   | zero=>intro i x h;omega
   | succ n ih =>
    intro i x h
    cases i with
    | zero=>rfl
    | succ i=>exact ih i x (by omega)
  unfold blkE at h
  rw[this n i _ q]at h
  cases h
 ·exact q
section
variable {K:PySem.W.Frag}{F:Fr}{σ σ':St}{ρ ρ':En}{H H':Hp}
theorem t0j (n:Nat)(js:List Nat):Srcs K F σ ρ H (bst n σ js) (blkR n js):=by
 unfold bst blkR
 induction n with
 | zero =>
  induction js with
  | nil=>exact .nil
  | cons j js ih=>exact .cons rfl ih
 | succ n ih=>exact .cons trivial ih
theorem k0i:∀(n i:Nat) (ρ:En),gt (ρ.drop n) i=gt ρ (n+i)
 | 0,i,ρ=>by simp
 | n+1,i,[]=>by simp[gt]
 | n+1,i,s::ρ=>by rw[List.drop_succ_cons,k0i n i ρ,Nat.add_right_comm];rfl
theorem p0h:∀(n i:Nat) (x:En),gt (List.replicate n Sv.un++x) i=if i<n then .un else gt x (i - n)
 | 0,i,x=>by simp
 | n+1,0,x=>by simp[List.replicate_succ,gt]
 | n+1,i+1,x=>by
  show gt (List.replicate n Sv.un++x) i=_
  rw[p0h n i x]
  by_cases h:i<n
  ·rw[if_pos h,if_pos (by omega)]
  ·rw[if_neg h,if_neg (by omega)];congr 1;omega
theorem Rel.forget {n:Nat}(r:Rel K F σ ρ H)(hn:n<=σ.length)(hp:∀i a,F.pin i a->n<=i):Rel K F (List.replicate n none++σ.drop n) (List.replicate n .un++ρ.drop n) H/\Same (hid H (hs F σ ρ)) (hid H (hs F (List.replicate n none++σ.drop n) (List.replicate n .un++ρ.drop n))):=by
 have g:∀i,gt (List.replicate n .un++ρ.drop n) i=if i<n then .un else gt ρ i:=fun i=>by
  rw[p0h]
  split
  ·rfl
  ·rw[k0i];congr 1;omega
 have s:∀i,n<=i->(List.replicate n none++σ.drop n)[i]? = σ[i]?:=fun i h=>by
  rw[List.getElem?_append_right (by simpa using h),List.length_replicate,List.getElem?_drop]
  congr 1;omega
 have own':∀i,(gt (List.replicate n .un++ρ.drop n) i).own=true->n<=i/\(gt ρ i).own=true:=fun i h=>by
  rw[g]at h
  split at h
  ·cases h
  ·exact⟨by omega,h⟩
 have sub:∀a,b0o (List.replicate n none++σ.drop n) (List.replicate n .un++ρ.drop n) a->b0o σ ρ a:=fun a ⟨i,hi,e⟩=>by
  obtain⟨h1,h2⟩:=own' i hi
  rw[s i h1]at e
  exact⟨i,h2,e⟩
 have vis:Same (hid H (hs F σ ρ)) (hid H (hs F (List.replicate n none++σ.drop n) (List.replicate n .un++ρ.drop n))):=b0f fun a o e n=>⟨e,fun z=>n (z.imp id (sub a))⟩
 refine⟨⟨by have:=r.len;simp;omega,r.fr,r.zl,fun a h=>r.zo a (sub a h),fun i a hi e=>?_,fun i a h=>?_,r.ml,r.ma,fun i j a hi hj ei ej=>?_,fun i=>?_⟩,vis⟩
 ·obtain⟨h1,h2⟩:=own' i hi
  rw[s i h1]at e
  exact r.ow i a h2 e
 ·rw[s i (hp i a h)];exact r.mi i a h
 ·obtain⟨h1,h2⟩:=own' i hi
  obtain⟨h3,h4⟩:=own' j hj
  rw[s i h1]at ei
  rw[s j h3]at ej
  exact r.nd i j a h2 h4 ei ej
 ·rw[g]
  split
  ·trivial
  ·rw[s i (by omega)]
   exact(r.sl i).keep vis fun _ _ _ _ e=>e
end
def g0y (n:Nat)(js:List Nat)(c:En->Prop)(g:AG)(tc:AT)(te:AE)(q:List D->En->Prop):List D->List D->En->Prop
 | [],acc,ρ=>c ρ/\q acc ρ
 | d::ds,acc,ρ=>c ρ/\g d (blkE n js ρ) fun ρ1=>tc ρ1 fun b ρ2=>if b=true then te ρ2 fun r ρ3=>sto [r.frz] ρ3 fun es ρ4=>g0y n js c g tc te q ds (acc++es) (back ρ (js.map R.o) (ρ4.drop n))else g0y n js c g tc te q ds acc (back ρ (js.map R.o) (ρ2.drop n))
def j1w (n:Nat)(js:List Nat)(i:AI)(g:AG)(tc:AT)(te:AE):AE:=fun ρ q=>i ρ fun ds c ρ1=>ds.length<=1000000/\g0y n js c g tc te (fun acc ρ2=>q (.f acc) ρ2) ds [] ρ1
def aAll:AT:=fun ρ q=>q true ρ
section
variable {K:PySem.W.Frag}
theorem b0y:TTok K tAll aAll:=fun F σ ρ H q Q r h k=>k _ _ _ h r .refl
theorem v0r {F:Fr}{σ:St}{ρ:En}{H:Hp}{v:V}{r:R}{q:List D->En->Prop}(a:Rel K F σ ρ H)(i:InF K F σ ρ H v r)(h:sto [r] ρ q):∃d ρ',q [d] ρ'/\Rel K F σ ρ' H/\Kp σ ρ ρ' H H/\RepD K (hid H (hs F σ ρ')) v d:=by
 obtain⟨ds,ρ',h1,h2,h3,h4⟩:=h0a a (.cons i .nil) h
 cases ds with
 | nil=>unfold RepDs at h4;exact h4.elim
 | cons d ds =>
  unfold RepDs at h4
  cases ds with
  | nil=>exact⟨d,ρ',h1,h2,h3,h4.1⟩
  | cons _ _=>obtain⟨_,z⟩:=h4;unfold RepDs at z;exact z.elim
theorem b0p {n:Nat}{js:List Nat}{wi:TI}{g:TG}{tc:TT}{te:TE}{ai:AI}{ag:AG}{atc:AT}{ate:AE}(hi:TIok K (fun _=>true) wi ai)(hg:TGok K (fun j=>decide (n<=j)) g ag)(hc:TTok K tc atc)(he:TEok K te ate)
  (hd:dis (js.map R.o)=true:=by rfl):TEok K (q0g n js wi g tc te) (j1w n js ai ag atc ate):=by
 intro F σ ρ H q Q r h k
 refine hi F σ ρ H _ _ r h fun ds c ρ1 J H1 h1 r1 k1 wk=>?_
 obtain⟨hz,h1⟩:=h1
 have hd':dis (blkR n js)=true:=by rw[n0p];exact hd
 refine⟨fun i m ys H'=>∃ ρ' acc,m=ds.length - i/\i<=ds.length/\Rel K F σ ρ' H'/\Kp σ ρ1 ρ' H1 H'/\RepDs K (hid H' (hs F σ ρ')) ys acc/\acc.length<=i/\g0y n js c ag atc ate (fun acc ρ2=>q (.f acc) ρ2) (ds.drop i) acc ρ',⟨ds.length,ρ1,[],rfl,Nat.zero_le _,r1,.refl,.nil,Nat.zero_le _,h1⟩,?_⟩
 rintro i m ys H' ⟨ρ',acc,rfl,hl,r',k',rd,al,h'⟩
 have w:c ρ'->WkAt K (hs F σ ρ') H' J ds:=fun hc=>wk σ ρ' H' k'.vis r'.sl (fun _ _ _ e=>e) (fun a z=>x0g r' z) hc
 have yl:ys.length=acc.length:=rd.length
 rcases Nat.lt_or_ge i ds.length with lt | ge
 ·right
  rw[List.drop_eq_getElem_cons lt]at h'
  unfold g0y at h'
  obtain⟨hcc,h'⟩:=h'
  obtain⟨go,yld⟩:=(w hcc i).1 ds[i] (List.getElem?_eq_getElem lt)
  refine⟨go,o0a (by omega),fun zs H2=>∃ ρ2 acc2,Rel K F σ ρ2 H2/\Kp σ ρ1 ρ2 H1 H2/\RepDs K (hid H2 (hs F σ ρ2)) zs acc2/\acc2.length<=i+1/\g0y n js c ag atc ate (fun acc ρ2=>q (.f acc) ρ2) (ds.drop (i+1)) acc2 ρ2,
   fun zs H2 ⟨ρ2,acc2,a1,a2,a3,a4,a5⟩=>⟨ds.length - (i+1),by omega,ρ2,acc2,rfl,lt,a1,a2,a3,a4,a5⟩,fun x H2 hy=>?_⟩
  obtain⟨sm,rx⟩:=yld x H2 hy
  have r0':=r'
  have k':Kp σ ρ1 ρ' H1 H2:=k'.trans ⟨fun a o e _=>sm a o e,fun _ h=>h⟩
  have rd:RepDs K (hid H2 (hs F σ ρ')) ys acc:=rd.same (b0f fun a o e n=>⟨sm a o e,n⟩)
  have r':=r0'.grow sm
  have src:=t0j (K:=K) (F:=F) (σ:=σ) (ρ:=ρ') (H:=H2) n js
  have rb:=r'.sub src hd'
  have hs2:=v0q r' src
  rw[d0e]at rb hs2
  have pin:∀i a,(f0z F σ ρ' H2 (bst n σ js) (blkE n js ρ')).pin i a->decide (n<=i)=true:=fun i a h=>by
   rcases h with h | h
   ·exact decide_eq_true (t0k h.1)
   ·exact h.elim
  have hlen:(bst n σ js).length=n+js.length:=h0k
  have ret:∀ σ2 ρ2 H3,Rel K (f0z F σ ρ' H2 (bst n σ js) (blkE n js ρ')) σ2 ρ2 H3->σ2.length=(bst n σ js).length->σ2.drop n=capt σ js->(∀i,(gt ρ2 i).own=true->(gt (blkE n js ρ') i).own=true) ->
    Rel K F σ (back ρ' (js.map R.o) (ρ2.drop n)) H3/\Kp σ ρ' (back ρ' (js.map R.o) (ρ2.drop n)) H2 H3/\Same (hid H3 (hs (f0z F σ ρ' H2 (bst n σ js) (blkE n js ρ')) σ2 ρ2)) (hid H3 (hs F σ (back ρ' (js.map R.o) (ρ2.drop n)))):=fun σ2 ρ2 H3 rr hlen2 hdrop hown=>by
   obtain⟨f1,f2⟩:=rr.forget (n:=n) (by omega) fun i a h=>of_decide_eq_true (pin i a h)
   rw[hdrop]at f1 f2
   have f1':Rel K (f0z F σ ρ' H2 (bst n σ js) ((blkR n js).map (d0t ρ'))) (bst n σ js) (List.replicate n .un++ρ2.drop n) H3:=by rw[d0e];exact f1
   have bk:=r'.back src hd' f1' fun i hi=>by
    rw[d0e]
    rw[p0h]at hi
    split at hi
    ·cases hi
    ·rename_i hni
     rw[k0i,show n+(i - n)=i by omega]at hi
     exact hown i hi
   have ln:(List.replicate n Sv.un++ρ2.drop n).length=n+js.length:=by
    have:=rr.len
    simp;omega
   rw[p0v js ρ' n _ ln,List.drop_left' (by simp),d0e]at bk
   exact⟨bk.1,bk.2.1,f2.trans bk.2.2⟩
  refine hg _ (bst n σ js) (blkE n js ρ') H2 x _ _ _ pin rb (by rw[hs2];exact rx) h' fun σ2 ρ2 h2 r2 l2 p2 o2=>?_
  have hdrop:σ2.drop n=capt σ js:=by
   have:σ2.drop n=(bst n σ js).drop n:=by
    apply List.ext_getElem?
    intro i
    rw[List.getElem?_drop,List.getElem?_drop]
    exact p2 (n+i) (decide_eq_true (by omega))
   rw[this]
   unfold bst
   rw[List.drop_left' (by simp)]
  refine⟨hdrop,hc _ σ2 ρ2 H2 _ _ r2 h2 fun b ρ3 H3 h3 r3 k3=>?_⟩
  cases b with
  | false =>
   obtain⟨b1,b2,_⟩:=ret σ2 ρ3 H3 r3 l2 hdrop fun i hi=>(o2 i (k3.sb i hi)).1
   exact⟨_,acc,b1,k'.trans b2,rd.same b2.vis,by omega,h3⟩
  | true =>
   refine he _ σ2 ρ3 H3 _ _ r3 h3 fun r4 ρ4 v H4 h4 o4=>?_
   obtain⟨r4',k4,i4⟩:=o4.inF
   obtain⟨d,ρ5,h5,r5,k5,rv⟩:=v0r r4' i4 h4
   obtain⟨b1,b2,b3⟩:=ret σ2 ρ5 H4 r5 l2 hdrop fun i hi=>(o2 i (k3.sb i (k4.sb i (k5.sb i hi)))).1
   exact⟨_,acc++[d],b1,k'.trans b2,(rd.same b2.vis).append (.one (rv.same b3)),by simp;omega,h5⟩
 ·left
  rw[List.drop_eq_nil_of_le ge]at h'
  unfold g0y at h'
  obtain⟨hcc,h'⟩:=h'
  refine⟨(w hcc i).2 ge,small (by omega),fun l hl'=>?_⟩
  exact((k.after k1).after k').new r' h' rd hl'
end
def outS:En->En->En
 | [],_=>[]
 | s::ss,ρ=>(if s.own=true then gt ρ 0 else s)::outS ss ρ.tail
theorem e1k (ρ:En)(i:Nat):gt ρ.tail i=gt ρ (i+1):=by cases ρ <;> rfl
theorem s0l:∀(ss ρ:En),(outS ss ρ).length=ss.length
 | [],_=>rfl
 | s::ss,ρ=>by simp[outS,s0l ss]
theorem r0i:∀(ss ρ:En) (i:Nat),gt (outS ss ρ) i=if(gt ss i).own=true then gt ρ i else gt ss i
 | [],ρ,i=>by simp[outS,gt,Sv.own]
 | s::ss,ρ,0=>rfl
 | s::ss,ρ,i+1=>by
  show gt (outS ss ρ.tail) i=_
  rw[r0i ss ρ.tail i,e1k]
  rfl
def fin (pr:Nat->Bool):R->En->Ko->Prop
 | .d d,ρ,k=>k (.d d) ρ
 | .n s,ρ,k=>k (.n s) ρ
 | .o i,ρ,k=>(match gt ρ i with
  | .ow ds=>if pr i=true then k (.d (.lst ds)) (pt ρ i (.vl (.lst ds)))else k (.n (.ow ds)) (pt ρ i .un)
  | .vl d=>k (.d d) ρ
  | .dk kvs=>if pr i=true then False else k (.n (.dk kvs)) (pt ρ i .un)
  | .dt kvs=>if pr i=true then False else k (.n (.dt kvs)) (pt ρ i .un)
  | _=>False)
 | .t _,_,_=>False
 | .x s,ρ,k=>k (.x s) ρ
def j1f (pr:Nat->Bool)(ss:En):Prop:=∀i,(gt ss i).own=true->pr i=true
section
variable {K:PySem.W.Frag}{F:Fr}{σ σ':St}{ρ ρ':En}{H H':Hp}
open Classical in
noncomputable def del (H:Hp)(l:Addr):Hp:=fun a=>if a=l then none else H a
open Classical in
theorem n0k {l:Addr}:del H l l=none:=by unfold del;rw[if_pos rfl]
open Classical in
theorem l0w {a l:Addr}(h:a≠l):del H l a=H a:=by unfold del;rw[if_neg h]
theorem i0j {l:Addr}{o:HO}(h:H l=some o):upd (del H l) l o=H:=by
 funext a
 by_cases e:a=l
 ·subst e;rw[a0y,h]
 ·rw[a0o e,l0w e]
theorem Rel.take (r:Rel K F σ ρ H){i:Nat}(hi:(gt ρ i).own=true)(hm:∀a,¬F.pin i a):∃l o,H l=some o/\σ[i]? = some (some (.ref l))/\Rel K F σ (pt ρ i .un) (del H l)/\SvOk K (hid (del H l) (hs F σ (pt ρ i .un))) H (some (some (.ref l))) (gt ρ i):=by
 have s:=r.sl i
 obtain⟨l,o,el,hl⟩:=s.alive hi
 have own':∀j,(gt (pt ρ i .un) j).own=true->i≠j/\(gt ρ j).own=true:=fun j h=>e0d rfl h
 have sub:∀a,b0o σ (pt ρ i .un) a->b0o σ ρ a/\a≠l:=fun a ⟨j,hj,e⟩=>by
  obtain⟨ij,hj⟩:=own' j hj
  exact⟨⟨j,hj,e⟩,fun z=>ij (r.nd i j l hi hj el (z▸e))⟩
 have ol:b0o σ ρ l:=⟨i,hi,el⟩
 have vis:Same (hid H (hs F σ ρ)) (hid (del H l) (hs F σ (pt ρ i .un))):=b0f fun a u e n=>by
  have al:a≠l:=fun z=>n (.inr (z▸ol))
  exact⟨by rw[l0w al];exact e,fun z=>n (z.imp id fun z=>(sub a z).1)⟩
 have h0:F.H0 l=none:=by
  rcases r.ow i l hi el with h | h
  ·exact absurd (Or.inl h.1) (hm l)
  ·exact h
 refine⟨l,o,hl,el,⟨by rw[g0d,r.len],fun a u e n=>?_,fun a z=>?_,fun a h=>r.zo a (sub a h).1,fun j a hj e=>r.ow j a (own' j hj).2 e,r.mi,r.ml,fun a z=>?_,fun j k a hj hk ej ek=>r.nd j k a (own' j hj).2 (own' k hk).2 ej ek,fun j=>?_⟩,?_⟩
 ·have al:a≠l:=fun z=>by rw[z,h0]at e;cases e
  rw[l0w al];exact r.fr a u e n
 ·have al:a≠l:=fun q=>r.zo l ol (q▸z)
  unfold Nt;rw[l0w al];exact r.zl a z
 ·have al:a≠l:=fun q=>r.ml a z (q▸h0)
  rw[l0w al];exact r.ma a z
 ·by_cases ij:i=j
  ·subst ij
   rw[k0z ρ i _ (j0v hi)];trivial
  ·rw[b0z ρ i j _ ij]
   refine(r.sl j).keep vis fun a u ho e h=>?_
   have al:a≠l:=fun z=>ij (r.nd i j l hi ho el (z▸e))
   rw[l0w al];exact h
 ·rw[el]at s
  exact s.keep vis fun _ _ _ _ e=>e
theorem Rel.out {vs:List V}{ss:En}{Z:Addr->Prop}(r0:Rel K (F0 vs ss H Z) (vs.map some) ss H)(r:Rel K (F0 vs ss H Z) σ' ρ' H') :
  Rel K (F0 vs ss H Z) (vs.map some) (outS ss ρ') H'/\Same (hid H' (hs (F0 vs ss H Z) σ' ρ')) (hid H' (hs (F0 vs ss H Z) (vs.map some) (outS ss ρ')))/\∀i,(gt (outS ss ρ') i).own=true->(gt ss i).own=true:=by
 have own':∀i,(gt (outS ss ρ') i).own=true->(gt ss i).own=true/\(gt ρ' i).own=true:=fun i h=>by
  rw[r0i]at h
  split at h
  ·rename_i q;exact⟨q,h⟩
  ·rename_i q;exact absurd h q
 have same:∀i a,(gt ss i).own=true->(vs.map some)[i]? = some (some (.ref a))->σ'[i]? = some (some (.ref a)):=fun i a h e=>r.mi i a (.inl ⟨h,e⟩)
 have sub:∀a,b0o (vs.map some) (outS ss ρ') a->b0o σ' ρ' a/\b0o (vs.map some) ss a:=fun a ⟨i,hi,e⟩=>by
  obtain⟨h1,h2⟩:=own' i hi
  exact⟨⟨i,h2,same i a h1 e⟩,⟨i,h1,e⟩⟩
 have v1:Same (hid H' (hs (F0 vs ss H Z) σ' ρ')) (hid H' (hs (F0 vs ss H Z) (vs.map some) (outS ss ρ'))):=b0f fun a o e n=>⟨e,fun z=>n (z.imp id fun z=>(sub a z).1)⟩
 have v2:Same (hid H (hs (F0 vs ss H Z) (vs.map some) ss)) (hid H' (hs (F0 vs ss H Z) (vs.map some) (outS ss ρ'))):=b0f fun a o e n=>⟨r.fr a o e fun z=>n (.inr z),fun z=>n (z.imp id fun z=>(sub a z).2)⟩
 refine⟨⟨by rw[s0l,r0.len],r.fr,r.zl,fun a h=>r.zo a (sub a h).1,fun i a hi e=>.inl ⟨⟨(own' i hi).1,e⟩,i,(own' i hi).1,e⟩,r0.mi,r.ml,r.ma,fun i j a hi hj ei ej=>r0.nd i j a (own' i hi).1 (own' j hj).1 ei ej,fun i=>?_⟩,v1,fun i h=>(own' i h).1⟩
 rw[r0i]
 split
 ·rename_i q
  obtain⟨l,o,e1,e2⟩:=(r0.sl i).alive q
  have:=same i l q e1
  rw[e1,<- this]
  exact(r.sl i).keep v1 fun _ _ _ _ e=>e
 ·rename_i q
  exact(r0.sl i).keep v2 fun l o ho=>absurd ho q
theorem p0j:∀(ρ:En) (n i:Nat),gt (ρ++List.replicate n .un) i=gt ρ i
 | [],n,i=>by
  show gt (List.replicate n .un) i = .un
  induction n generalizing i with
  | zero=>rfl
  | succ n ih=>cases i with
   | zero=>rfl
   | succ i=>exact ih i
 | s::ρ,n,0=>rfl
 | s::ρ,n,i+1=>p0j ρ n i
theorem Rel.ext (r:Rel K F σ ρ H)(n:Nat):Rel K F (σ++List.replicate n none) (ρ++List.replicate n .un) H:=by
 have s:∀ {i a},(gt ρ i).own=true->(σ++List.replicate n none)[i]? = some (some (V.ref a))->σ[i]? = some (some (.ref a)):=fun{i a} h e=>by
  rwa [List.getElem?_append_left (by rw[r.len];exact j0v h)]at e
 have sub:∀a,b0o (σ++List.replicate n none) (ρ++List.replicate n .un) a->b0o σ ρ a:=fun a ⟨i,hi,e⟩=>by
  rw[p0j]at hi
  exact⟨i,hi,s hi e⟩
 have vis:Same (hid H (hs F σ ρ)) (hid H (hs F (σ++List.replicate n none) (ρ++List.replicate n .un))):=b0f fun a o e n=>⟨e,fun z=>n (z.imp id (sub a))⟩
 refine⟨by simp[r.len],r.fr,r.zl,fun a h=>r.zo a (sub a h),fun i a hi e=>?_,fun i a h=>?_,r.ml,r.ma,fun i j a hi hj ei ej=>?_,fun i=>?_⟩
 ·rw[p0j]at hi
  exact r.ow i a hi (s hi e)
 ·have:=r.mi i a h
  rw[List.getElem?_append_left (List.getElem?_eq_some_iff.mp this).1];exact this
 ·rw[p0j]at hi hj
  exact r.nd i j a hi hj (s hi ei) (s hj ej)
 ·rw[p0j]
  have q:=r.sl i
  rcases Nat.lt_or_ge i σ.length with lt | ge
  ·rw[List.getElem?_append_left lt]
   exact q.keep vis fun _ _ _ _ e=>e
  ·rw[l0t ρ i (by rw[<- r.len];exact ge)];trivial
end
theorem DefN.aok {P:Program}{w:World}{K:PySem.W.Frag}{mg:Str->Option Value}{base:Heap}{x:Str}{st:Stmt}{N ps:List Str}{k:Nat}{a:AS}(D:DefN K mg x st ps)(Sc:b0l N ps (a0i st))(pr:Nat->Bool)(S:ASp)
  (hbody:∀(f:Addr) (cdv:Value) (A:Around) (outer:List Env) (s:Shared) (H:Hp) (E:XK),Room k (A.deeper (envOfC x (a0i st) s.heap.objs.size f cdv)) ->
   ∃t,PSs (cxOf CX0 P w K mg base N x (a0i st) f cdv A outer s H E).nox (e0x st) t/\TSok K pr t a)
  (hS:∀ss q,S ss q->ss.length=ps.length/\j1f pr ss/\a ⟨fun ρ=>q (.d .non) (outS ss ρ),fun r ρ=>fin pr r ρ fun r' ρ'=>q r' (outS ss ρ'),fun _=>False,fun _=>False⟩ (ss++List.replicate (N.length - ps.length) .un)):OkN P w K mg base (k+1) x ps (spA K S):=by
 have lenOk:∀vs H Q E,spA K S vs H Q E->vs.length=ps.length:=fun vs H Q E h=>by
  obtain⟨ss,Z,q,r,hs',_⟩:=h
  have:=r.len
  rw[List.length_map]at this
  rw[this];exact(hS ss q hs').1
 refine D.ok Sc lenOk (fun f cdv A outer s H vs Q E hr h=>?_)
 have hl:=lenOk _ _ _ _ h
 obtain⟨ss,Z,q,r0,hs',post⟩:=h
 obtain⟨h1,h2,h3⟩:=hS ss q hs'
 obtain⟨t,ht,tok⟩:=hbody f cdv A outer s H E hr
 refine⟨t,ht,?_⟩
 have hp:∀i a,(F0 vs ss H Z).pin i a->pr i=true:=fun i a h=>by
  rcases h with h | h
  ·exact h2 i h.1
  ·exact h.elim
 unfold start
 rw[hl]
 have fin_d:∀ σ' ρ' v H' d,q (.d d) (outS ss ρ')->Rel K (F0 vs ss H Z) σ' ρ' H'->RepD K (hid H' (hs (F0 vs ss H Z) σ' ρ')) v d->Q v H':=fun σ' ρ' v H' d hq r rd=>by
  obtain⟨o1,o2,o3⟩:=r0.out r
  exact post (.d d) _ v H' hq o3 (fun i z=>nomatch z) ⟨o1,rd.same o2⟩
 refine tok (F0 vs ss H Z) _ _ H _ _ hp (r0.ext _) h3 ⟨fun σ' ρ' H' hq r=>?_,fun _ _ _ z=>z.elim,fun _ _ _ z=>z.elim,fun σ' ρ' rr v H' hq r=>?_⟩
 ·exact fin_d σ' ρ' _ H' .non hq r (by unfold RepD;rfl)
 ·cases rr with
  | d d=>exact fin_d σ' ρ' v H' d hq r.1 r.2
  | t n=>exact hq.elim
  | x s =>
   obtain⟨ra,rb,rc⟩:=r
   obtain⟨o1,o2,o3⟩:=r0.out ra
   exact post (.x s) _ v H' hq o3 (fun i z=>nomatch z) ⟨o1,rb,rc.keep o2 fun l o ho=>by rw[rb]at ho;cases ho⟩
  | n sv =>
   obtain⟨Hb,l,o,a1,a2,a3,a4,a5,a6⟩:=r
   obtain⟨o1,o2,o3⟩:=r0.out a1
   exact post (.n sv) _ v H' hq o3 (fun i z=>nomatch z) ⟨Hb,l,o,o1,a2,a3.keep o2 fun _ _ _ _ e=>e,a4,a5,a6⟩
  | o i =>
   obtain⟨r,ei⟩:=r
   have hq':(match gt ρ' i with
    | .ow ds=>if pr i=true then q (.d (.lst ds)) (outS ss (pt ρ' i (.vl (.lst ds))))else q (.n (.ow ds)) (outS ss (pt ρ' i .un))
    | .vl d=>q (.d d) (outS ss ρ')
    | .dk kvs=>if pr i=true then False else q (.n (.dk kvs)) (outS ss (pt ρ' i .un))
    | .dt kvs=>if pr i=true then False else q (.n (.dt kvs)) (outS ss (pt ρ' i .un))
    | _=>False):=hq
   clear hq
   split at hq'
   ·rename_i ds hg
    split at hq'
    ·obtain⟨l,el,r2,k2,rd⟩:=r.frz hg
     rw[ei]at el
     injection el with el;injection el with el;subst el
     exact fin_d σ' _ _ H' _ hq' r2 rd
    ·rename_i hpr
     have ho:(gt ρ' i).own=true:=by rw[hg];rfl
     obtain⟨l,o,hl',el,r2,sv⟩:=r.take ho fun a z=>hpr (hp i a z)
     rw[ei]at el
     injection el with el;injection el with el;subst el
     obtain⟨o1,o2,o3⟩:=r0.out r2
     rw[hg]at sv
     refine post (.n (.ow ds)) _ _ H' hq' o3 (fun i z=>nomatch z) ⟨del H' l,l,o,o1,rfl,?_,n0k,(i0j hl').symm,rfl⟩
     rw[i0j hl']
     exact sv.keep o2 fun _ _ _ _ e=>e
   ·rename_i d hg
    have s:=r.sl i
    rw[hg,ei]at s
    obtain⟨x,e1,rd⟩:=s
    injection e1 with e1;injection e1 with e1;subst e1
    exact fin_d σ' ρ' _ H' d hq' r rd
   ·rename_i kvs hg
    split at hq'
    ·exact hq'.elim
    ·rename_i hpr
     have ho:(gt ρ' i).own=true:=by rw[hg];rfl
     obtain⟨l,o,hl',el,r2,sv⟩:=r.take ho fun a z=>hpr (hp i a z)
     rw[ei]at el
     injection el with el;injection el with el;subst el
     obtain⟨o1,o2,o3⟩:=r0.out r2
     rw[hg]at sv
     refine post (.n (.dk kvs)) _ _ H' hq' o3 (fun i z=>nomatch z) ⟨del H' l,l,o,o1,rfl,?_,n0k,(i0j hl').symm,rfl⟩
     rw[i0j hl']
     exact sv.keep o2 fun _ _ _ _ e=>e
   ·rename_i kvs hg
    split at hq'
    ·exact hq'.elim
    ·rename_i hpr
     have ho:(gt ρ' i).own=true:=by rw[hg];rfl
     obtain⟨l,o,hl',el,r2,sv⟩:=r.take ho fun a z=>hpr (hp i a z)
     rw[ei]at el
     injection el with el;injection el with el;subst el
     obtain⟨o1,o2,o3⟩:=r0.out r2
     rw[hg]at sv
     refine post (.n (.dt kvs)) _ _ H' hq' o3 (fun i z=>nomatch z) ⟨del H' l,l,o,o1,rfl,?_,n0k,(i0j hl').symm,rfl⟩
     rw[i0j hl']
     exact sv.keep o2 fun _ _ _ _ e=>e
   ·exact hq'.elim
def SLaw:ASp:=fun ss q=>∃ns:List Int,ns.length<=63/\ss=[.sc ns]/\∀ss',q (.d (.bl true)) ss'
theorem h1k {P:Program}{w:World}{K:PySem.W.Frag}{mg:Str->Option Value}{base:Heap}{k:Nat}{x:Str}{ps:List Str}(h:OkN P w K mg base k x ps (spA K SLaw)):OkN P w K mg base k x ps (d1d K):=by
 obtain⟨f,fd,a1,a2,a3,a4,g⟩:=h.ex
 refine⟨f,fd,a1,a2,a3,a4,g.imp fun vs H Q E hq=>?_⟩
 obtain⟨a,ns,rfl,sq,hl,k⟩:=hq
 refine⟨[.sc ns],fun _=>False,fun r _=>r = .d (.bl true),⟨rfl,fun a o e _=>e,fun a z=>z.elim,fun a _ z=>z,fun i a hi _=>?_,fun i a h=>?_,fun a h=>?_,fun a h=>?_,fun i j a hi=>?_,fun i=>?_⟩,⟨ns,hl,rfl,fun _=>rfl⟩,fun r ss' v H' e1 _ _ rr=>?_⟩
 ·exfalso;cases i with
  | zero=>cases hi
  | succ i=>cases hi
 ·rcases h with h | h
  ·cases i with
   | zero=>cases h.1
   | succ i=>cases h.1
  ·exact h.elim
 ·obtain⟨i,hi,_⟩:=h
  cases i with
  | zero=>cases hi
  | succ i=>cases hi
 ·obtain⟨i,hi,_⟩:=h
  cases i with
  | zero=>cases hi
  | succ i=>cases hi
 ·exfalso;cases i with
  | zero=>cases hi
  | succ i=>cases hi
 ·cases i with
  | succ i=>trivial
  | zero =>
   refine⟨a,rfl,?_⟩
   refine(show Same H (hid H _)from fun b o e=>f0e (fun z=>?_) e).seq sq
   rcases z with z | ⟨i,hi,_⟩
   ·exact z
   ·cases i with
    | zero=>cases hi
    | succ i=>cases hi
 ·subst e1
  obtain⟨_,rd⟩:=rr
  unfold RepD at rd
  subst rd
  exact k H'
def v0t (K:PySem.W.Frag):Sp:=fun vs H Q _=>∃(t c:Addr) (m sp lf:Int) (ns:List Int) (n:Nat),vs=[.ref t,.int m]/\H t=some (.dK (c0t c sp lf))/\SqL K H c (ns.map V.int)/\0<=sp/\sp<=n/\0<=lf/\n<1000000000000/\Dv m /\
 ∀(r:Nat) (sp' lf':Int),(r:Int)<m->0<=sp'->sp'<=(n+1:Nat)->0<=lf'->Q (.int (r:Nat)) (upd H t (.dK (c0t c sp' lf')))
def v0s (K:PySem.W.Frag):Sp:=fun vs H Q _=>∃(a:Addr) (ns:List Int),vs=[.ref a]/\SqL K H a (ns.map V.int) /\
 ∀t c,H t=none->H c=none->t≠c->Q (.ref t) (upd (upd H c (.lst ((ns.take 63).map V.int))) t (.dK (c0t c 0 0)))
def f1f:ASp:=fun ss q=>∃ns:List Int,ss=[.sc ns]/\q (.n (.tp 0)) [.sc ns]
def y0t:ASp:=fun ss q=>∃(n:Nat) (m:Int),ss=[.tp n,.vl (.int m)]/\n<1000000000000/\Dv m/\∀r:Nat,(r:Int)<m->q (.d (.int r)) [.tp (n+1),.vl (.int m)]
theorem OkN.imp {P:Program}{w:World}{K:PySem.W.Frag}{mg:Str->Option Value}{base:Heap}{k:Nat}{x:Str}{ps:List Str}{sp sp':Sp}(h:OkN P w K mg base k x ps sp)(i:∀vs H Q E,sp' vs H Q E->sp vs H Q E):OkN P w K mg base k x ps sp':=by
 obtain⟨f,fd,a1,a2,a3,a4,g⟩:=h.ex
 exact⟨f,fd,a1,a2,a3,a4,g.imp i⟩
theorem i1p {vs:List V}{s:Sv}{F:Fr}{K:PySem.W.Frag}{H:Hp}(r:Rel K F (vs.map some) [s] H):∃x,vs=[x]:=by
 have:=r.len
 match vs,this with
 | [x],_=>exact⟨x,rfl⟩
theorem i1o {vs:List V}{s s':Sv}{F:Fr}{K:PySem.W.Frag}{H:Hp}(r:Rel K F (vs.map some) [s,s'] H):∃x y,vs=[x,y]:=by
 have:=r.len
 match vs,this with
 | [x,y],_=>exact⟨x,y,rfl⟩
theorem e1t {K:PySem.W.Frag}(vs:List V)(H:Hp)(Q:VK)(E:XK)(h:spA K y0t vs H Q E):v0t K vs H Q E:=by
 obtain⟨ss,Z,q,r,⟨n,m,rfl,hn,hm,hq⟩,post⟩:=h
 obtain⟨x,y,rfl⟩:=i1o r
 obtain⟨t,c,ns,sp,lf,e0,ht,hc,h1,h2,h3⟩:=r.sl 0
 obtain⟨y',e1,ry⟩:=r.sl 1
 unfold RepD at ry
 injection e0 with e0;injection e0 with e0;subst e0
 injection e1 with e1;injection e1 with e1
 subst e1 ry
 refine⟨t,c,m,sp,lf,ns,n,rfl,ht,c0i.seq hc,h1,h2,h3,hn,hm,fun rr sp' lf' hr a1 a2 a3=>?_⟩
 have hw:=r.write (i:=0) (l:=t) (o:=.dK (c0t c sp' lf')) (s:=.tp (n+1)) rfl rfl rfl ⟨t,c,ns,sp',lf',rfl,a0y,hc,a1,a2,a3⟩
 refine post (.d (.int rr)) [.tp (n+1),.vl (.int m)] _ _ (hq rr hr) (fun i h=>?_) (fun i z=>nomatch z) ⟨hw.1,by unfold RepD;rfl⟩
 match i,h with
 | 0,_=>rfl
 | 1,h=>cases h
 | i+2,h=>cases h
theorem d1b {K:PySem.W.Frag}(vs:List V)(H:Hp)(Q:VK)(E:XK)(h:spA K f1f vs H Q E):v0s K vs H Q E:=by
 obtain⟨ss,Z,q,r,⟨ns,rfl,hq⟩,post⟩:=h
 obtain⟨x,rfl⟩:=i1p r
 obtain⟨a,e0,sq⟩:=r.sl 0
 injection e0 with e0;injection e0 with e0;subst e0
 refine⟨a,ns,rfl,c0i.seq sq,fun t c ht hc htc=>?_⟩
 have rc:=r.fresh (o:=.lst ((ns.take 63).map V.int)) hc
 have kc:Kp ([V.ref a].map some) [.sc ns] [.sc ns] H (upd H c (.lst ((ns.take 63).map V.int))):=Kp.fresh hc
 have ht':(upd H c (.lst ((ns.take 63).map V.int))) t=none:=by rw[a0o htc];exact ht
 refine post (.n (.tp 0)) _ _ _ hq (fun i h=>h) (fun i z=>nomatch z) ⟨_,t,_,rc,rfl,⟨t,c,ns.take 63,0,0,rfl,a0y,SqL.of (f0e (h0w r hc) a0y),by decide,by decide,by decide⟩,ht',rfl,rfl⟩
section
variable {K:PySem.W.Frag}{F:Fr}{σ:St}{ρ ρ':En}{H H':Hp}{ta tb tc:TE}{a b c:AE}{rr rr':R2}{g g':R->R->AE}
def gNeg:R->AE:=fun r ρ q=>match r with
 | .d (.int i)=>q (.d (.int (-i))) ρ
 | _=>False
theorem c1y (ha:TEok K ta a):TEok K (tUn (rU fun i=>.int (-i)) ta) (aUn gNeg a):=by
 intro F σ ρ H q Q r h k
 refine ha F σ ρ H _ _ r h fun r1 ρ1 x H1 h1 o1=>?_
 obtain⟨r1',k1,i1⟩:=o1.inF
 unfold gNeg at h1
 split at h1
 ·rename_i i e
  rw[e]at i1
  exact⟨i,i1.int,(k.after k1).int r1' h1⟩
 ·exact h1.elim
def e1h:D->Bool
 | .non=>true
 | _=>false
def isEx (ρ:En):R->Bool
 | .o i=>(match gt ρ i with | .ex _ _=>true | _=>false)
 | _=>false
def gIsN (neg:Bool):R->R->AE:=fun r1 r2 ρ q=>match view ρ r1,r2 with
 | some d,.d .non=>q (.d (.bl (if neg then !e1h d else e1h d))) ρ
 | none,.d .non=>isEx ρ r1=true/\q (.d (.bl neg)) ρ
 | _,_=>False
theorem s0v {F:Fr}{σ:St}{ρ:En}{H:Hp}{x:V}{r1:R}(a:Rel K F σ ρ H)(h1:InF K F σ ρ H x r1)(h:isEx ρ r1=true):∃e,x = .ref e:=by
 cases r1 with
 | d d=>cases h
 | n s=>cases h
 | t n=>cases h
 | x n=>cases h
 | o i =>
  have q:=a.sl i
  cases hg:gt ρ i with
  | ex C fs =>
   rw[hg]at q
   obtain⟨e,od,e1,_⟩:=q
   rw[show σ[i]? = _ from h1]at e1
   injection e1 with e1;injection e1 with e1
   exact⟨e,e1⟩
  | _=>exact absurd h (by show ¬(match gt ρ i with | .ex _ _=>true | _=>false)=true;rw[hg];exact fun z=>nomatch z)
theorem p0f {x:V}{d:D}(h:RepD K H x d):decide (x=V.non)=e1h d:=by
 cases d with
 | non=>unfold RepD at h;subst h;rfl
 | bl b=>unfold RepD at h;subst h;rfl
 | int b=>unfold RepD at h;subst h;rfl
 | str b=>unfold RepD at h;subst h;rfl
 | tup ds=>unfold RepD at h;obtain⟨a,vs,rfl,_⟩:=h;rfl
 | lst ds=>unfold RepD at h;obtain⟨a,vs,rfl,_⟩:=h;rfl
theorem w0q:OpOk K (fun x y H Q=>y = .non/\Q (.bl (decide (x = .non))) H) (gIsN false):=by
 intro F σ ρ H x y r1 r2 q Q a h1 h2 h b
 unfold gIsN at h
 split at h
 ·rename_i d e
  unfold InF RepD at h2
  refine⟨h2,?_⟩
  rw[p0f (d0p a h1 e)]
  exact b.bl a h
 ·unfold InF RepD at h2
  obtain⟨h',h⟩:=h
  obtain⟨e,rfl⟩:=s0v a h1 h'
  refine⟨h2,?_⟩
  rw[decide_eq_false (fun z=>nomatch z)]
  exact b.bl a h
 ·exact h.elim
theorem m0t:OpOk K (fun x y H Q=>y = .non/\Q (.bl (!decide (x = .non))) H) (gIsN true):=by
 intro F σ ρ H x y r1 r2 q Q a h1 h2 h b
 unfold gIsN at h
 split at h
 ·rename_i d e
  unfold InF RepD at h2
  refine⟨h2,?_⟩
  rw[p0f (d0p a h1 e)]
  exact b.bl a h
 ·unfold InF RepD at h2
  obtain⟨h',h⟩:=h
  obtain⟨e,rfl⟩:=s0v a h1 h'
  refine⟨h2,?_⟩
  rw[decide_eq_false (fun z=>nomatch z)]
  exact b.bl a h
 ·exact h.elim
def n0h:D->Bool
 | .tup _=>false
 | .lst _=>false
 | _=>true
def inD (d:D)(ds:List D):Bool:=ds.any fun e=>eqD e d
@[irreducible] def gIn (neg:Bool):R->R->AE:=fun r1 r2 ρ q=>match view ρ r1,view ρ r2 with
 | some d,some (.lst ds)=>(n0h d=true/\ds.all n0h=true)/\q (.d (.bl (if neg then !inD d ds else inD d ds))) ρ
 | some d,some (.tup ds)=>(n0h d=true/\ds.all n0h=true)/\q (.d (.bl (if neg then !inD d ds else inD d ds))) ρ
 | _,_=>False
theorem n0g {x:V}{d:D}(h:RepD K H x d)(f:n0h d=true):l0b x=true:=by
 cases d with
 | tup ds=>cases f
 | lst ds=>cases f
 | non=>unfold RepD at h;subst h;rfl
 | bl b=>unfold RepD at h;subst h;rfl
 | int b=>unfold RepD at h;subst h;rfl
 | str b=>unfold RepD at h;subst h;rfl
theorem e1s {x y:V}{d e:D}(h:RepD K H x d)(h':RepD K H y e)(f:n0h d=true)(f':n0h e=true):eqV x y=eqD d e:=by
 cases d with
 | tup ds=>cases f
 | lst ds=>cases f
 | non=>unfold RepD at h;subst h;cases e with
  | tup ds=>cases f'
  | lst ds=>cases f'
  | non=>unfold RepD at h';subst h';simp[eqV,eqD]
  | bl b=>unfold RepD at h';subst h';simp[eqV,eqD]
  | int b=>unfold RepD at h';subst h';simp[eqV,eqD]
  | str b=>unfold RepD at h';subst h';simp[eqV,eqD]
 | bl b=>unfold RepD at h;subst h;cases e with
  | tup ds=>cases f'
  | lst ds=>cases f'
  | non=>unfold RepD at h';subst h';simp[eqV,eqD]
  | bl b=>unfold RepD at h';subst h';simp[eqV,eqD]
  | int b=>unfold RepD at h';subst h';simp[eqV,eqD]
  | str b=>unfold RepD at h';subst h';simp[eqV,eqD]
 | int b=>unfold RepD at h;subst h;cases e with
  | tup ds=>cases f'
  | lst ds=>cases f'
  | non=>unfold RepD at h';subst h';simp[eqV,eqD]
  | bl b=>unfold RepD at h';subst h';simp[eqV,eqD]
  | int b=>unfold RepD at h';subst h';simp[eqV,eqD]
  | str b=>unfold RepD at h';subst h';simp[eqV,eqD]
 | str b=>unfold RepD at h;subst h;cases e with
  | tup ds=>cases f'
  | lst ds=>cases f'
  | non=>unfold RepD at h';subst h';simp[eqV,eqD]
  | bl b=>unfold RepD at h';subst h';simp[eqV,eqD]
  | int b=>unfold RepD at h';subst h';simp[eqV,eqD]
  | str b=>unfold RepD at h';subst h';simp[eqV,eqD]
theorem x0e {x:V}{d:D}(h:RepD K H x d)(f:n0h d=true):∀ {vs:List V} {ds:List D},RepDs K H vs ds->ds.all n0h=true->vs.all l0b=true/\inV x vs=inD d ds
 | [],[],_,_=>⟨rfl,rfl⟩
 | v::vs,e::ds,hr,fa=>by
  unfold RepDs at hr
  rw[List.all_cons,Bool.and_eq_true]at fa
  obtain⟨q1,q2⟩:=x0e h f hr.2 fa.2
  refine⟨by rw[List.all_cons,n0g hr.1 fa.1,q1];rfl,?_⟩
  unfold inV inD at *
  rw[List.any_cons,List.any_cons,q2,e1s hr.1 h fa.1 f]
 | [],d::ds,h,_=>by unfold RepDs at h;exact h.elim
 | v::vs,[],h,_=>by unfold RepDs at h;exact h.elim
theorem l0o (neg:Bool):OpOk K (rIn K neg) (gIn neg):=by
 intro F σ ρ H x y r1 r2 q Q a h1 h2 h b
 unfold gIn at h
 split at h
 ·rename_i d ds e1 e2
  obtain⟨⟨f1,f2⟩,h⟩:=h
  have rx:=d0p a h1 e1
  obtain⟨l,vs,rfl,sq,rd⟩:=c0q a h2 e2
  obtain⟨q1,q2⟩:=x0e rx f1 (rd.same c0i) f2
  refine⟨l,vs,rfl,.inl sq,n0g rx f1,q1,?_⟩
  rw[q2]
  exact b.bl a h
 ·rename_i d ds e1 e2
  obtain⟨⟨f1,f2⟩,h⟩:=h
  have rx:=d0p a h1 e1
  obtain⟨l,vs,rfl,sq,rd,_⟩:=i0w a h2 e2
  obtain⟨q1,q2⟩:=x0e rx f1 (rd.same c0i) f2
  refine⟨l,vs,rfl,.inr sq,n0g rx f1,q1,?_⟩
  rw[q2]
  exact b.bl a h
 ·exact h.elim
end
theorem t0b {c:En->Prop}{g:AG}{b:AS}{e:AEnds}(I:Nat->En->Prop){ds:List D}(hc:∀k ρ,k<=ds.length->I k ρ->c ρ)
  (hs:∀(k:Nat) d ρ (N:En->Prop),ds[k]? = some d->I k ρ->(∀ ρ',I (k+1) ρ'->N ρ')->g d ρ fun ρ1=>b {nx:=N,ct:=N,bk:=e.nx,rt:=e.rt} ρ1) (hd:∀ ρ,I ds.length ρ->e.nx ρ):∀ ρ,I 0 ρ->forA c g b e ds ρ:=by
 have go:∀(es:List D) (k:Nat),ds.drop k=es->k<=ds.length->∀ ρ,I k ρ->forA c g b e es ρ:=by
  intro es
  induction es with
  | nil =>
   intro k h hk ρ i
   have:ds.length<=k:=List.drop_eq_nil_iff.mp h
   have:k=ds.length:=by omega
   subst this
   unfold forA
   exact⟨hc _ ρ (Nat.le_refl _) i,hd ρ i⟩
  | cons d es ih =>
   intro k h hk ρ i
   have lt:k<ds.length:=by
    rcases Nat.lt_or_ge k ds.length with q | q
    ·exact q
    ·rw[List.drop_eq_nil_of_le q]at h;cases h
   rw[List.drop_eq_getElem_cons lt]at h
   injection h with h1 h2
   unfold forA
   exact⟨hc k ρ hk i,hs k d ρ _ (by rw[<- h1];exact List.getElem?_eq_getElem lt) i (fun ρ' i'=>ih (k+1) h2 lt ρ' i')⟩
 exact go ds 0 rfl (Nat.zero_le _)
theorem e0t {n:Nat}{js:List Nat}{c:En->Prop}{g:AG}{tc:AT}{te:AE}{q:List D->En->Prop}(I:Nat->List D->En->Prop){ds:List D}(hc:∀k acc ρ,k<=ds.length->I k acc ρ->c ρ)
  (hs:∀(k:Nat) d acc ρ (N:List D->En->Prop),ds[k]? = some d->I k acc ρ->(∀acc' ρ',I (k+1) acc' ρ'->N acc' ρ') ->
   g d (blkE n js ρ) fun ρ1=>tc ρ1 fun b ρ2=>if b=true then te ρ2 fun r ρ3=>sto [r.frz] ρ3 fun es ρ4=>N (acc++es) (back ρ (js.map R.o) (ρ4.drop n))else N acc (back ρ (js.map R.o) (ρ2.drop n)))
  (hd:∀acc ρ,I ds.length acc ρ->q acc ρ):∀ ρ,I 0 [] ρ->g0y n js c g tc te q ds [] ρ:=by
 have go:∀(es:List D) (k:Nat),ds.drop k=es->k<=ds.length->∀acc ρ,I k acc ρ->g0y n js c g tc te q es acc ρ:=by
  intro es
  induction es with
  | nil =>
   intro k h hk acc ρ i
   have:ds.length<=k:=List.drop_eq_nil_iff.mp h
   have:k=ds.length:=by omega
   subst this
   unfold g0y
   exact⟨hc _ acc ρ (Nat.le_refl _) i,hd acc ρ i⟩
  | cons d es ih =>
   intro k h hk acc ρ i
   have lt:k<ds.length:=by
    rcases Nat.lt_or_ge k ds.length with q | q
    ·exact q
    ·rw[List.drop_eq_nil_of_le q]at h;cases h
   rw[List.drop_eq_getElem_cons lt]at h
   injection h with h1 h2
   unfold g0y
   exact⟨hc k acc ρ hk i,hs k d acc ρ (fun acc' ρ'=>g0y n js c g tc te q es acc' ρ') (by rw[<- h1];exact List.getElem?_eq_getElem lt) i (fun acc' ρ' i'=>ih (k+1) h2 lt acc' ρ' i')⟩
 exact go ds 0 rfl (Nat.zero_le _) []
theorem u0q {n:Nat}{js:List Nat}{c:En->Prop}{g:AG}{tc:AT}{te:AE}{q:List D->En->Prop}(f:Nat->D->List D){ds:List D}(ρ:En)(hc:c ρ)
  (hs:∀(k:Nat) d acc (N:List D->En->Prop),ds[k]? = some d->N (acc++f k d) ρ ->
   g d (blkE n js ρ) fun ρ1=>tc ρ1 fun b ρ2=>if b=true then te ρ2 fun r ρ3=>sto [r.frz] ρ3 fun es ρ4=>N (acc++es) (back ρ (js.map R.o) (ρ4.drop n))else N acc (back ρ (js.map R.o) (ρ2.drop n)))
  (hd:q (ds.zipIdx.map fun p=>f p.2 p.1).flatten ρ):g0y n js c g tc te q ds [] ρ:=by
 refine e0t (fun k acc ρ'=>ρ'=ρ/\acc=((ds.take k).zipIdx.map fun p=>f p.2 p.1).flatten) (fun k acc ρ' _ h=>h.1▸hc) ?_ ?_ ρ ⟨rfl,rfl⟩
 ·rintro k d acc _ N hk ⟨rfl,rfl⟩ hN
  refine hs k d _ N hk (hN _ _ ⟨rfl,?_⟩)
  have lt:=(List.getElem?_eq_some_iff.mp hk).1
  rw[List.take_add_one,hk,Option.toList_some,List.zipIdx_append,List.map_append,List.flatten_append,List.length_take,Nat.min_eq_left (by omega)]
  simp
 ·rintro acc _ ⟨rfl,rfl⟩
  rw[List.take_length];exact hd
theorem y0c {n:Nat}{js:List Nat}{c:En->Prop}{g:AG}{tc:AT}{te:AE}{q:List D->En->Prop}(f:D->D){ds:List D}(ρ:En)(hc:c ρ)
  (hs:∀d acc (N:List D->En->Prop),d∈ds->N (acc++[f d]) ρ ->
   g d (blkE n js ρ) fun ρ1=>tc ρ1 fun b ρ2=>if b=true then te ρ2 fun r ρ3=>sto [r.frz] ρ3 fun es ρ4=>N (acc++es) (back ρ (js.map R.o) (ρ4.drop n))else N acc (back ρ (js.map R.o) (ρ2.drop n)))
  (hd:q (ds.map f) ρ):g0y n js c g tc te q ds [] ρ:=by
 refine u0q (fun _ d=>[f d]) ρ hc (fun k d acc N hk hN=>hs d acc N (List.mem_of_getElem? hk) hN) ?_
 have:(ds.zipIdx.map fun p=>[f p.1]).flatten=ds.map f:=by
  rw[<- List.flatMap_def,show(ds.zipIdx.flatMap fun p=>[f p.1])=(ds.zipIdx.map fun p=>f p.1)from by rw[List.map_eq_flatMap]]
  rw[show(fun p:D×Nat=>f p.1)=f ∘ Prod.fst from rfl,<- List.map_map,List.zipIdx_map_fst]
 rw[this];exact hd
theorem q0b {c:AT}{b:AS}{e:AEnds}(I:En->Prop)(μ:En->Nat)
  (hs:∀ ρ (N:En->Prop),I ρ->(∀ ρ',I ρ'->μ ρ'<μ ρ->N ρ')->c ρ fun k ρ1=>if k=true then b {nx:=N,ct:=N,bk:=e.nx,rt:=e.rt} ρ1 else e.nx ρ1):∀ ρ,I ρ->c1o c b e ρ:=by
 have go:∀(n:Nat) ρ,I ρ->μ ρ<n->whA c b e n ρ:=by
  intro n
  induction n with
  | zero=>intro ρ _ h;omega
  | succ n ih=>intro ρ i h;exact hs ρ _ i fun ρ' i' lt=>ih ρ' i' (by omega)
 exact fun ρ i=>⟨μ ρ+1,go _ ρ i (by omega)⟩
section
variable {X:Cx}(K:PySem.W.Frag)
def g1r (K:PySem.W.Frag):R2:=fun x y H Q=>∃a b xs ys,x = .ref a/\y = .ref b/\SqL K H a xs/\SqL K H b ys/\xs.length+ys.length<=1000000/\∀p,H p=none->Q (.ref p) (upd H p (.lst (xs++ys)))
theorem j0y (hK:X.K=K:=by rfl):OpR X (binaryOp .Add) (g1r K):=by
 subst hK
 intro pins s σ H x y v u Q I rx ry h
 obtain⟨a,b,xs,ys,rfl,rfl,ha,hb,hz,q⟩:=h
 cases rx
 cases ry
 obtain⟨its,r1,p1,_⟩:=I.list ha
 obtain⟨its2,r2,p2,_⟩:=I.list hb
 have hz':its.length+its2.length<=sizeLine:=small (by rw[<- r1.length,<- r2.length];exact hz)
 obtain⟨⟨cls,dd,data,sl⟩,ho,hc,n,hd⟩:=p1.isList
 obtain⟨⟨cls2,dd2,data2,sl2⟩,ho2,hc2,n2,hd2⟩:=p2.isList
 simp only at hc hd hc2 hd2
 subst hc hd hc2 hd2
 refine concat_meets ⟨_,ho,rfl⟩ ⟨_,ho2,rfl⟩ noFill_list_add seq_list_add PySem.F.slot_list_add PySem.F.entry_list_add (PySem.F.args_list_add_2 _ _) (list_addW a b its.toArray its2.toArray n n2 dd dd2 sl sl2 (by rw[List.size_toArray,List.size_toArray];exact hz')) ⟨ho,ho2,?_⟩
 refine⟨.ref s.heap.objs.size,_,I.laid (t':=s.toks) (o:=.lst (xs++ys)) (fun b ob q=>Heap.get?_push_of_some _ q) (Nat.le_refl _) ?_,rfl,q _ (I.hok.fresh (Nat.le_refl _))⟩
 refine⟨by rw[List.length_append];exact small hz,_,0,r1.append r2,?_⟩
 rw[show(its++its2).toArray=its.toArray++its2.toArray by simp]
 exact Heap.get?_push_size _ rfl
variable {e st:Expr}{te:TE}{ts:TO}{pos p2:Pos}
end
section
variable {K:PySem.W.Frag}{ta te:TE}{a ae:AE}{ts:TA}{as:AA}
def gCat:R->R->AE:=fun r1 r2 ρ q=>match view ρ r1,view ρ r2 with
 | some (.lst ds),some (.lst es)=>ds.length+es.length<=1000000/\q (.f (ds++es)) ρ
 | _,_=>False
theorem k0a:OpOk K (g1r K) gCat:=by
 intro F σ ρ H x y r1 r2 q Q a h1 h2 h b
 unfold gCat at h
 split at h
 ·rename_i ds es e1 e2
  obtain⟨l,vs,rfl,sq,rd⟩:=c0q a h1 e1
  obtain⟨l2,vs2,rfl,sq2,rd2⟩:=c0q a h2 e2
  exact⟨l,l2,vs,vs2,rfl,rfl,sq,sq2,by rw[rd.length,rd2.length];exact h.1,fun p hp=>b.new a h.2 (rd.append rd2) hp⟩
 ·exact h.elim
def gInt:List R->AE:=fun rs ρ q=>match rs with
 | [.d (.int i)]=>q (.d (.int i)) ρ
 | [.d (.bl k)]=>q (.d (.int (if k then 1 else 0))) ρ
 | _=>False
theorem a1o:CbOk K (fun xs H Q=>(∃i,xs=[.int i]/\Q (.int i) H) ∨ ∃k,xs=[.bl k]/\Q (.int (if k then 1 else 0)) H) gInt:=by
 intro F σ ρ H vs rs q Q a i h b
 unfold gInt at h
 split at h
 ·obtain⟨x,rfl,i1⟩:=i.one
  exact .inl ⟨_,by rw[i1.int],b.int a h⟩
 ·obtain⟨x,rfl,i1⟩:=i.one
  exact .inr ⟨_,by rw[i1.blv],b.int a h⟩
 ·exact h.elim
end
abbrev nD (n:Nat):D:=.int (n:Nat)
abbrev nv (n:Nat):Sv:=.vl (.int (n:Nat))
def ownB (pr:Nat->Bool):En->Nat->Bool
 | [],_=>true
 | s::ss,i=>(!s.own||pr i)&&ownB pr ss (i+1)
theorem q0q {pr:Nat->Bool}:∀ {ss:En} {j:Nat},ownB pr ss j=true->∀i,(gt ss i).own=true->pr (j+i)=true
 | [],_,_,i,h=>by cases h
 | s::ss,j,hb,0,h=>by
  simp only[ownB,Bool.and_eq_true,Bool.or_eq_true,Bool.not_eq_true']at hb
  rcases hb.1 with q | q
  ·rw[show(gt (s::ss) 0)=s from rfl,q]at h;cases h
  ·exact q
 | s::ss,j,hb,i+1,h=>by
  simp only[ownB,Bool.and_eq_true]at hb
  have:=q0q hb.2 i h
  rwa [show j+1+i=j+(i+1)by omega]at this
theorem DefN.aok2 {P:Program}{w:World}{K:PySem.W.Frag}{mg:Str->Option Value}{base:Heap}{x:Str}{st:Stmt}{N ps:List Str}{k:Nat}{a:AS}(D:DefN K mg x st ps)(Sc:b0l N ps (a0i st))(pr:Nat->Bool)(us:En)(S:ASp)(hus:List.replicate (N.length - ps.length) Sv.un=us)
  (hbody:∀(f:Addr) (cdv:Value) (A:Around) (outer:List Env) (s:Shared) (H:Hp) (E:XK),Room k (A.deeper (envOfC x (a0i st) s.heap.objs.size f cdv)) ->
   ∃t,PSs (cxOf CX0 P w K mg base N x (a0i st) f cdv A outer s H E).nox (e0x st) t/\TSok K pr t a)
  (hS:∀ss q,S ss q->ss.length=ps.length/\ownB pr ss 0=true/\a ⟨fun ρ=>q (.d .non) (outS ss ρ),fun r ρ=>fin pr r ρ fun r' ρ'=>q r' (outS ss ρ'),fun _=>False,fun _=>False⟩ (ss++us)):OkN P w K mg base (k+1) x ps (spA K S) :=
 D.aok Sc pr S hbody fun ss q h=>⟨(hS ss q h).1,fun i hi=>by have:=q0q (hS ss q h).2.1 i hi;rwa [Nat.zero_add]at this,by rw[hus];exact(hS ss q h).2.2⟩
theorem j0a {lo:Int}{n k:Nat}{d:D}(h:(rngD lo n)[k]? = some d):k<n/\d = .int (lo+k):=by
 unfold rngD at h
 rw[List.getElem?_map]at h
 obtain⟨j,e1,e2⟩:=Option.map_eq_some_iff.mp h
 have lt:k<n:=by
  rcases Nat.lt_or_ge k n with q | q
  ·exact q
  ·rw[List.getElem?_eq_none (by simpa using q)]at e1;cases e1
 rw[List.getElem?_range lt]at e1
 cases e1
 exact⟨lt,e2.symm⟩
abbrev g1a (n:Nat)(js:List Nat)(g:AG)(tc:AT)(te:AE)(ρ:En)(d:D)(acc:List D)(N:List D->En->Prop):Prop :=
 g d (blkE n js ρ) fun ρ1=>tc ρ1 fun b ρ2=>if b=true then te ρ2 fun r ρ3=>sto [r.frz] ρ3 fun es ρ4=>N (acc++es) (back ρ (js.map R.o) (ρ4.drop n))else N acc (back ρ (js.map R.o) (ρ2.drop n))
section
variable {n:Nat}{js:List Nat}{c:En->Prop}{g:AG}{tc:AT}{te:AE}{q:List D->En->Prop}
theorem c0c {α:Type}(h:α->D)(f:α->D){xs:List α}{ρ:En}(hc:c ρ)(hs:∀x acc (N:List D->En->Prop),x∈xs->N (acc++[f x]) ρ->g1a n js g tc te ρ (h x) acc N)
  (hd:q (xs.map f) ρ):g0y n js c g tc te q (xs.map h) [] ρ:=by
 refine e0t (fun k acc ρ'=>ρ'=ρ/\acc=(xs.take k).map f) (fun k acc ρ' _ h=>h.1▸hc) ?_ ?_ ρ ⟨rfl,rfl⟩
 ·rintro k d acc _ N hk ⟨rfl,rfl⟩ hN
  rw[List.getElem?_map]at hk
  obtain⟨x,e1,rfl⟩:=Option.map_eq_some_iff.mp hk
  refine hs x _ N (List.mem_of_getElem? e1) (hN _ _ ⟨rfl,?_⟩)
  rw[List.take_add_one,e1,Option.toList_some,List.map_append];rfl
 ·rintro acc _ ⟨rfl,rfl⟩
  rw[List.length_map,List.take_length];exact hd
end
section
variable {c:En->Prop}{g:AG}{b:AS}{e:AEnds}
theorem h0x {lo:Int}{m:Nat}(I:Nat->En->Prop)(hc:∀k ρ,I k ρ->c ρ)(hs:∀(k:Nat) ρ (N:En->Prop),k<m->I k ρ->(∀ ρ',I (k+1) ρ'->N ρ')->g (.int (lo+k)) ρ fun ρ1=>b {nx:=N,ct:=N,bk:=e.nx,rt:=e.rt} ρ1)
  (hd:∀ ρ,I m ρ->e.nx ρ) {ρ:En} (h0:I 0 ρ):forA c g b e (rngD lo m) ρ:=by
 refine t0b I (fun k ρ _ h=>hc k ρ h) (fun k d ρ N hk h hN=>?_) (fun ρ h=>hd ρ (by rwa [e0v]at h)) ρ h0
 obtain⟨lt,rfl⟩:=j0a hk
 exact hs k ρ N lt h hN
theorem g0w {α:Type}(h:α->D){xs:List α}(I:Nat->En->Prop)(hc:∀k ρ,I k ρ->c ρ)(hs:∀(k:Nat) x ρ (N:En->Prop),xs[k]? = some x->I k ρ->(∀ ρ',I (k+1) ρ'->N ρ')->g (h x) ρ fun ρ1=>b {nx:=N,ct:=N,bk:=e.nx,rt:=e.rt} ρ1)
  (hd:∀ ρ,I xs.length ρ->e.nx ρ) {ρ:En} (h0:I 0 ρ):forA c g b e (xs.map h) ρ:=by
 refine t0b I (fun k ρ _ h=>hc k ρ h) (fun k d ρ N hk h' hN=>?_) (fun ρ h=>hd ρ (by rwa [List.length_map]at h)) ρ h0
 rw[List.getElem?_map]at hk
 obtain⟨x,e1,rfl⟩:=Option.map_eq_some_iff.mp hk
 exact hs k x ρ N e1 h' hN
end
theorem a1u {xs:List Nat}{i:Nat}(h:i<xs.length):atI (a0p xs) ((i:Nat):Int)=some (.int (xs.getD i 0:Nat)):=by
 refine y0o ?_
 unfold a0p
 rw[List.getElem?_map,List.getElem?_eq_getElem h]
 simp[h]
theorem h0v {r1:R}{ρ:En}{q:Ko}{xs:List Nat}{i:Nat}(hv:view ρ r1=some (.lst (a0p xs)))(h:i<xs.length)(hq:q (.d (.int (xs.getD i 0:Nat))) ρ):gIx r1 (.d (.int (i:Nat))) ρ q:=by
 unfold gIx
 rw[hv]
 simp only[a1u h]
 exact hq
theorem f0x {neg:Bool}{r1 r2:R}{ρ:En}{q:Ko}{d e:D}{b:Bool}(h1:view ρ r1=some d)(h2:view ρ r2=some e)(hd:d.depth<=60)(hb:eqD d e=b)(hq:q (.d (.bl (if neg then !b else b))) ρ):gEq neg r1 r2 ρ q:=by
 unfold gEq
 rw[h1,h2]
 subst hb
 exact⟨hd,hq⟩
theorem r0n (ns:List Int):depths (ns.map D.int)=0:=by
 induction ns with
 | nil=>simp[depths]
 | cons n ns ih=>rw[List.map_cons];unfold depths;rw[ih];simp[D.depth]
theorem r0m (ns:List Nat):(D.lst (a0p ns)).depth<=60:=by
 have:a0p ns=(ns.map fun(n:Nat)=>(n:Int)).map D.int:=by unfold a0p;simp
 rw[this];unfold D.depth;rw[r0n];decide
theorem l0a {r1:R}{ρ:En}{q:Ko}{ds:List D}{i:Int}{d:D}(hv:view ρ r1=some (.tup ds))(h:atI ds i=some d)(hq:q (.d d) ρ):gIx r1 (.d (.int i)) ρ q:=by
 unfold gIx
 rw[hv]
 simp only[h]
 exact hq
theorem j1j {r1:R}{ρ:En}{q:Ko}{ds:List D}{i:Int}{d:D}(hv:view ρ r1=some (.lst ds))(h:atI ds i=some d)(hq:q (.d d) ρ):gIx r1 (.d (.int i)) ρ q:=by
 unfold gIx
 rw[hv]
 simp only[h]
 exact hq
theorem e0g {r:R}{ρ:En}{q:Ko}{d:D}{n:String}{b:Bool}(hv:view ρ r=some d)(h:isaT (tyD d) n=some b)(hq:q (.d (.bl b)) ρ):gIsa [r,.t n] ρ q:=by
 unfold gIsa
 simp only[hv,h]
 exact hq
theorem x0n {r:R}{ρ:En}{q:Ko}{bs:List Bool}(hv:view ρ r=some (.lst (bs.map D.bl)))(hq:q (.d (.bl (bs.all id))) ρ):gAll [r] ρ q:=by
 unfold gAll
 simp only[hv,p0u]
 exact hq
theorem e1p {r:R}{ρ:En}{q:Ko}{ns:List Int}(hv:view ρ r=some (.lst (ns.map D.int)))(h1:∀n∈ns,0<=n)(h2:ns.sum<2^62)(hq:q (.d (.int ns.sum)) ρ):gSum [r] ρ q:=by
 unfold gSum
 simp only[hv,u0j]
 exact⟨h1,h2,hq⟩
def isI:D->Bool
 | .int _=>true
 | _=>false
theorem cutS {A B:AS}{e:AEnds}{ρ:En}(P:En->Prop)(h1:∀N:En->Prop,(∀ ρ',P ρ'->N ρ')->A {e with nx:=N} ρ)(h2:∀ ρ',P ρ'->B e ρ'):aSeq A B e ρ:=h1 (B e) h2
theorem t0z {x:Int}{n:Nat}(h:x=(n:Nat)):Sv.vl (.int x)=nv n:=by rw[h]
def k0u:ASp:=fun ss q=>∃d:D,ss=[.vl d]/\q (.d (.bl (isI d))) [.vl d]
theorem i0i (xs:List Nat)(x:Nat):a0p (xs++[x])=a0p xs++[nD x]:=by unfold a0p;rw[List.map_append];rfl
theorem a1v {n:Nat}{js:List Nat}{c:En->Prop}{g:AG}{tc:AT}{te:AE}{q:List D->En->Prop}(xs:List Nat){ρ:En}(hc:c ρ)(hs:∀x acc (N:List D->En->Prop),x∈xs->N (acc++[.bl true]) ρ->g1a n js g tc te ρ (nD x) acc N)
  (hd:q ((xs.map fun _=>true).map D.bl) ρ):g0y n js c g tc te q (a0p xs) [] ρ :=
 c0c nD (fun _=>.bl true) hc hs (by rw[List.map_map]at hd;exact hd)
theorem p0p (xs:List D)(k:Nat):cutD xs (some ((k:Nat):Int)) none=xs.drop k:=by
 unfold cutD
 have e0:HT.sIx xs.length xs.length none=xs.length:=rfl
 rw[e0,HT.sIx_nat]
 rcases Nat.le_total k xs.length with h | h
 ·rw[Nat.min_eq_left h,List.take_of_length_le (by rw[List.length_drop];omega)]
 ·rw[Nat.min_eq_right h,List.drop_eq_nil_of_le (Nat.le_refl _),List.drop_eq_nil_of_le h];simp
theorem a0x (xs:List Nat):(a0p xs).length=xs.length:=by rw[List.length_map]
theorem p0o (N:Net):(netD N).depth<=60:=by
 have h1:depths (N.js.map L2.b0h)<=1:=by
  generalize N.js=js
  induction js with
  | nil=>simp[depths]
  | cons p r ih =>
   rw[List.map_cons]
   unfold depths
   have:(L2.b0h p).depth=1:=by simp[D.depth,depths]
   omega
 have h2:=l0v N.os
 simp only[netD,D.depth,depths,h2]
 omega
def k0v:ASp:=fun ss q=>∃N:Net,ss=[.vl (netD N)]/\N.os.length<=1000/\q (.d (.bl true)) [.vl (netD N)]
end L2
namespace HT
open PySem PySem.Spec PyProof.Rows
end HT
namespace L2
open PySem PySem.Spec PyProof.Rows
def dKey:D->Option Key
 | .int i=>some (.inl i)
 | .str x=>some (.inr x)
 | _=>none
section
variable {κ:Type} [DecidableEq κ]
def valD (kvs:List (κ×D))(k:κ):Option D:=(kvs.find? fun kv=>decide (kv.1=k)).map (·.2)
def putD (kvs:List (κ×D))(k:κ)(d:D):List (κ×D) :=
 if(kvs.any fun kv=>decide (kv.1=k))=true then kvs.map (fun kv=>if kv.1=k then(kv.1,d)else kv)else kvs++[(k,d)]
variable {K:PySem.W.Frag}{H:Hp}
theorem q0c (k:κ):∀ {ks:List (κ×V)} {kvs:List (κ×D)},ks.map Prod.fst=kvs.map Prod.fst->RepDs K H (ks.map Prod.snd) (kvs.map Prod.snd) ->
  (∀d,valD kvs k=some d->∃v,valV ks k=some v/\RepD K H v d)/\(valD kvs k=none->valV ks k=none)
 | [],[],_,_=>⟨(fun _ h=>nomatch h),fun _=>rfl⟩
 | p::ks,q::kvs,e,r=>by
  simp only[List.map_cons,List.cons.injEq]at e
  rw[List.map_cons,List.map_cons]at r
  unfold RepDs at r
  obtain⟨i1,i2⟩:=q0c k e.2 r.2
  by_cases z:q.1=k
  ·have e1:valD (q::kvs) k=some q.2:=by simp[valD,List.find?_cons,z]
   rw[e1,i0x (e.1.trans z)]
   exact⟨fun d h=>⟨_,rfl,by cases h;exact r.1⟩,fun h=>by cases h⟩
  ·have e1:valD (q::kvs) k=valD kvs k:=by simp[valD,List.find?_cons,z]
   rw[e1,i0y (fun h=>z (e.1▸h))]
   exact⟨i1,i2⟩
 | [],q::kvs,e,_=>by simp at e
 | p::ks,[],e,_=>by simp at e
theorem f1b (k:κ){ks:List (κ×V)}{kvs:List (κ×D)}(e:ks.map Prod.fst=kvs.map Prod.fst):(ks.any fun kv=>decide (kv.1=k))=kvs.any fun kv=>decide (kv.1=k):=by
 have h1:(ks.any fun kv=>decide (kv.1=k))=(ks.map Prod.fst).any fun x=>decide (x=k):=by rw[List.any_map];rfl
 have h2:(kvs.any fun kv=>decide (kv.1=k))=(kvs.map Prod.fst).any fun x=>decide (x=k):=by rw[List.any_map];rfl
 rw[h1,h2,e]
theorem s0d (k:κ){v:V}{d:D}(rv:RepD K H v d):∀ {ks:List (κ×V)} {kvs:List (κ×D)},ks.map Prod.fst=kvs.map Prod.fst->RepDs K H (ks.map Prod.snd) (kvs.map Prod.snd) ->
  (ks.map fun kv=>if kv.1=k then(kv.1,v)else kv).map Prod.fst=(kvs.map fun kv=>if kv.1=k then(kv.1,d)else kv).map Prod.fst/\RepDs K H ((ks.map fun kv=>if kv.1=k then(kv.1,v)else kv).map Prod.snd) ((kvs.map fun kv=>if kv.1=k then(kv.1,d)else kv).map Prod.snd)
 | [],[],_,_=>⟨rfl,.nil⟩
 | p::ks,q::kvs,e,r=>by
  simp only[List.map_cons,List.cons.injEq]at e
  rw[List.map_cons,List.map_cons]at r
  unfold RepDs at r
  obtain⟨i1,i2⟩:=s0d k rv e.2 r.2
  simp only[List.map_cons,e.1]
  by_cases z:q.1=k
  ·simp only[z,if_true]
   exact⟨by rw[i1],.cons rv i2⟩
  ·simp only[z,if_false]
   exact⟨by rw[i1,e.1],.cons r.1 i2⟩
 | [],q::kvs,e,_=>by simp at e
 | p::ks,[],e,_=>by simp at e
theorem w0e (k:κ){v:V}{d:D}(rv:RepD K H v d){ks:List (κ×V)}{kvs:List (κ×D)}(e:ks.map Prod.fst=kvs.map Prod.fst)(r:RepDs K H (ks.map Prod.snd) (kvs.map Prod.snd)) :
  (putK ks k v).map Prod.fst=(putD kvs k d).map Prod.fst/\RepDs K H ((putK ks k v).map Prod.snd) ((putD kvs k d).map Prod.snd):=by
 unfold putK putD
 rw[f1b k e]
 split
 ·exact s0d k rv e r
 ·refine⟨by rw[List.map_append,List.map_append,e];rfl,?_⟩
  rw[List.map_append,List.map_append]
  exact r.append (.one rv)
theorem s0q {ks:List (κ×V)}{kvs:List (κ×D)}(e:ks.map Prod.fst=kvs.map Prod.fst):ks.length=kvs.length:=by
 have:=congrArg List.length e
 simpa using this
end
section
variable {K:PySem.W.Frag}{F:Fr}{σ:St}{ρ ρ':En}{H H':Hp}{td ty tx:TE}{ad ay ax:AE}
theorem h1q {v:V}{d:D}{k:Key}(h:RepD K H v d)(e:dKey d=some k):v=kV k:=by
 cases d with
 | int i=>unfold RepD at h;injection e with e;subst e;exact h
 | str i=>unfold RepD at h;injection e with e;subst e;exact h
 | non=>cases e
 | bl _=>cases e
 | tup _=>cases e
 | lst _=>cases e
end
section
variable {X:Cx}{pins:List (Addr×Obj)}{σ:St}{H:Hp}{s:Shared}{h':Heap}
theorem Inv.turns {t':Nat}{ch:List Addr}(I:Inv X pins σ H s)(k:∀b o,b∉ch->s.heap.get? b=some o->h'.get? b=some o)(hf:∀b∈ch,FpOk X pins H b):Inv X pins σ H {s with heap:=h',toks:=t'}:=by
 have nit:∀b u,H b=some u->b∉ch:=fun b u e z=>by rw[(hf b z).1]at e;cases e
 refine I.step (g':=s.gens) (d':=s.drawn) (ch:=ch) (fun b hb=>?_) (fun b o _ _ hc e _=>k b o hc e) (fun b o _ _ hc e _=>⟨o.slots,k b o hc e⟩) (fun _ _ _ _ n=>n)
  (fun b o hc e=>⟨o,k b o hc e⟩) (fun _ _ e=>e) (fun _ _ _ e=>e) (fun b ps e=>⟨#[],by rw[e];simp⟩) (fun m hm=>?_) (fun b u e=>?_) I.bare
 ·obtain⟨_,h2,_,h4,h5,h6⟩:=hf b hb
  exact⟨h4,h2,h5,h6⟩
 ·obtain⟨o,es,ep,ho,r⟩:=hm
  exact⟨o,es,ep,k _ o (fun z=>(hf _ z).2.1 rfl) ho,r⟩
 ·refine(I.hok b u e).stay (fun c v hc q=>k c v ?_ q) (fun _ q=>q) fun _ _ q=>q
  rcases hc with z | z
  ·rw[z];exact nit b u e
  ·exact nit c _ z
theorem Inv.trackO {p:Addr}{o:HO}(I:Inv X pins σ H s)(hf:FpOk X pins H p)(new:c0s X.prog X.w (upd H p o) s.heap p o):Inv X pins σ (upd H p o) s:=by
 have hn:=hf.1
 refine I.call' (ch:=[p]) rfl ⟨fun b u e _ _ _=>e,fun b u e _ _ _=>⟨u.slots,e⟩,fun b u e n hx=>?_,fun b u e _=>⟨u,e⟩,fun b xs e=>?_,fun b u v e=>?_,fun b ps e=>⟨#[],?_⟩⟩ (fun b u e=>?_) I.bare (fun b hb=>?_)
 ·rw[a0o (fun z=>hx (by simp[z]))];exact n
 ·rw[a0o (b0b e hn)];exact e
 ·rw[a0o (b0b e hn)];exact e
 ·rw[a0o (b0b e hn),e];simp
 ·by_cases hb:b=p
  ·subst hb;rw[a0y]at e;cases e;exact new
  ·rw[a0o hb]at e
   exact(I.hok b u e).stay (fun c v _ q=>q) (fun c q=>by rw[a0o (b0b q hn)];exact q) fun c xs q=>by rw[a0o (b0b q hn)];exact q
 ·rw[List.mem_singleton.mp hb]
  obtain⟨_,h2,_,h4,h5,h6⟩:=hf
  exact⟨h4,h2,h5,h6⟩
end
section
variable {K:PySem.W.Frag}{ts:TA}{as:AA}
def z0a (pin:Nat->Bool)(ρ:En):R->Option (List D×(En->Prop))
 | .d (.lst ds)=>some (ds,fun _=>True)
 | .o i=>(match gt ρ i with
  | .ow ds=>if pin i=true then some (ds,fun ρ2=>gt ρ2 i = .ow ds)else none
  | _=>none)
 | _=>none
theorem y0z {pin:Nat->Bool}{F:Fr}{σ:St}{ρ:En}{H:Hp}{v:V}{r:R}{ds:List D}{c:En->Prop}(a:Rel K F σ ρ H)(i:InF K F σ ρ H v r)(e:z0a pin ρ r=some (ds,c)) :
  ∃l vs,v = .ref l/\SqL K H l vs/\∀ σ2 ρ2 H2,Same (hid H (hs F σ ρ)) (hid H2 (hs F σ2 ρ2))->(∀i,SvOk K (hid H2 (hs F σ2 ρ2)) H2 σ2[i]? (gt ρ2 i))->(∀j a,pin j=true->σ[j]? = some (some (.ref a))->σ2[j]? = some (some (.ref a)))->c ρ2->∃vs2,SqL K H2 l vs2/\RepDs K (hid H2 (hs F σ2 ρ2)) vs2 ds:=by
 cases r with
 | n s=>cases e
 | t n=>cases e
 | x s=>cases e
 | d d =>
  cases d with
  | lst es =>
   simp only[z0a,Option.some.injEq,Prod.mk.injEq]at e
   obtain⟨rfl,rfl⟩:=e
   have rd:RepD K _ v (.lst es):=i
   unfold RepD at rd
   obtain⟨l,vs,rfl,sq,rr⟩:=rd
   exact⟨l,vs,rfl,c0i.seq (StL.sq sq),fun σ2 ρ2 H2 sm _ _ _=>⟨vs,c0i.seq (sm.seq (StL.sq sq)),rr.same sm⟩⟩
  | non=>cases e
  | bl _=>cases e
  | int _=>cases e
  | str _=>cases e
  | tup _=>cases e
 | o j =>
  have ej:σ[j]? = some (some v):=i
  unfold z0a at e
  cases hg:gt ρ j with
  | ow es =>
   simp only[hg]at e
   split at e
   ·rename_i hp
    simp only[Option.some.injEq,Prod.mk.injEq]at e
    obtain⟨rfl,rfl⟩:=e
    have s:=a.sl j
    rw[hg,ej]at s
    obtain⟨l,vs,e1,hl,rd⟩:=s
    injection e1 with e1;injection e1 with e1;subst e1
    refine⟨l,vs,rfl,SqL.of hl,fun σ2 ρ2 H2 sm sv pn hc=>?_⟩
    have s2:=sv j
    rw[hc,pn j l hp ej]at s2
    obtain⟨l',vs',e2,hl',rd'⟩:=s2
    injection e2 with e2;injection e2 with e2;injection e2 with e2;subst e2
    exact⟨vs',SqL.of hl',rd'⟩
   ·cases e
  | un=>simp[hg]at e
  | vl _=>simp[hg]at e
  | tp _=>simp[hg]at e
  | dk _=>simp[hg]at e
  | dt _=>simp[hg]at e
  | ex _ _=>simp[hg]at e
  | sc _=>simp[hg]at e
  | px _ _ _=>simp[hg]at e
  | xl _=>simp[hg]at e
end
section
variable {K:PySem.W.Frag}{ts:TA}{as:AA}
def aNever:AS:=fun _ _=>False
theorem n0z {pr:Nat->Bool}:TSok K pr tNever aNever:=fun F σ ρ H D e hp r h k=>h.elim
end
section
variable {X:Cx}(K:PySem.W.Frag)
def tFmt (te:TE):TE:=fun σ H Q=>te σ H fun x H1=>∃i,x = .int i/\i.natAbs.log2<1920/\Q (.str (toString i)) H1
theorem g1z {e:Expr}{te:TE}{pos:Pos}(he:PE X e te):PE X (.FormattedValue e (-1) none pos) (tFmt te):=by
 intro pins s σ H Q I h
 refine FormattedValue_plain (thn (he pins s σ H _ I h) fun v s1 ⟨x,H1,I1,r1,q1⟩=>?_)
 obtain⟨i,rfl,hz,q⟩:=q1
 obtain⟨t,rfl⟩:=r1
 exact formatField_int_small hz ⟨.str _,H1,I1.tok _,⟨_,rfl⟩,q⟩
abbrev TJ:=Str->TE
def PJ (X:Cx)(es:List Expr)(t:TJ):Prop:=∀(out:Str) (pins:List (Addr×Obj)) (s:Shared) (σ:St) (H:Hp) (Q:VK),Inv X pins σ H s->t out σ H Q->wpAny (model X.prog X.w) X.A (joinParts out (evalEach es X.env)) (EP X pins σ Q) X.xe s
def jNil:TJ:=fun out _ H Q=>out.length<=sizeLine/\Q (.str out) H
def h1s (te:TE)(t:TJ):TJ:=fun out σ H Q=>te σ H fun x H1=>∃y,x = .str y/\(out++y).length<=sizeLine/\t (out++y) σ H1 Q
theorem g1u:PJ X [] jNil:=fun out pins s σ H Q I h=>joinParts_nil ⟨.str out,H,I.tok _,⟨_,rfl⟩,h.2⟩ h.1
theorem q0n {e:Expr}{es:List Expr}{te:TE}{t:TJ}(he:PE X e te)(hr:PJ X es t)(hs:evalEach (e::es) X.env=eval e X.env::evalEach es X.env:=by rfl):PJ X (e::es) (h1s te t):=by
 intro out pins s σ H Q I h
 rw[hs]
 refine joinParts_cons (thn (he pins s σ H _ I h) fun v s1 ⟨x,H1,I1,r1,y,e1,hz,q⟩=>?_)
 subst e1
 obtain⟨t',rfl⟩:=r1
 exact⟨hz,hr _ pins s1 σ H1 Q I1 q⟩
theorem w0j {v1 v2:Expr}{rest:List Expr}{pos:Pos}{t:TJ}(h:PJ X (v1::v2::rest) t)(hs:evalEach (v1::v2::rest) X.env=eval v1 X.env::eval v2 X.env::evalEach rest X.env:=by rfl):PE X (.JoinedStr (v1::v2::rest) pos) (t Str.empty):=by
 intro pins s σ H Q I hq
 refine JoinedStr_many ?_
 rw[<- hs]
 exact h Str.empty pins s σ H Q I hq
end
section
variable {K:PySem.W.Frag}{ta te:TE}{a ae:AE}{ts:TA}{as:AA}
theorem InF.strv {F:Fr}{σ:St}{ρ:En}{H:Hp}{v:V}{x:Str}(h:InF K F σ ρ H v (.d (.str x))):v = .str x:=by
 unfold InF RepD at h;exact h
def aFmt (a:AE):AE:=fun ρ q=>a ρ fun r ρ1=>match r with
 | .d (.int i)=>i.natAbs.log2<1920/\q (.d (.str (toString i))) ρ1
 | _=>False
theorem c1z (ha:TEok K ta a):TEok K (tFmt ta) (aFmt a):=by
 intro F σ ρ H q Q r h k
 refine ha F σ ρ H _ _ r h fun r1 ρ1 x H1 h1 o1=>?_
 obtain⟨r1',k1,i1⟩:=o1.inF
 split at h1
 ·exact⟨_,i1.int,h1.1,(k.after k1).str r1' h1.2⟩
 ·exact h1.elim
abbrev AJ:=Str->AE
def TJok (K:PySem.W.Frag)(t:TJ)(a:AJ):Prop:=∀out,TEok K (t out) (a out)
def ajNil:AJ:=fun out ρ q=>out.length<=1000000/\q (.d (.str out)) ρ
def i1q (a:AE)(r:AJ):AJ:=fun out ρ q=>a ρ fun r1 ρ1=>match r1 with
 | .d (.str y)=>(out++y).length<=1000000/\r (out++y) ρ1 q
 | _=>False
theorem z0f:TJok K jNil ajNil:=fun out F σ ρ H q Q r h k=>⟨small h.1,k.str r h.2⟩
theorem j0i {t:TJ}{aj:AJ}(ha:TEok K ta a)(hr:TJok K t aj):TJok K (h1s ta t) (i1q a aj):=by
 intro out F σ ρ H q Q r h k
 refine ha F σ ρ H _ _ r h fun r1 ρ1 x H1 h1 o1=>?_
 obtain⟨r1',k1,i1⟩:=o1.inF
 split at h1
 ·exact⟨_,i1.strv,small h1.1,hr _ F σ ρ1 H1 q Q r1' h1.2 (k.after k1)⟩
 ·exact h1.elim
theorem t0r {t:TJ}{aj:AJ}(h:TJok K t aj):TEok K (t Str.empty) (aj Str.empty):=h _
def j1x (a:AE):AE:=fun ρ q=>a ρ fun r ρ1=>match r with
 | .d (.int i)=>q (.d (.int (Builtin.Int.intBits i:Nat))) ρ1
 | _=>False
theorem z0e (ha:TEok K ta a):TEok K (tBM0 K "int" (fun x xs H Q=>∃i,x = .int i/\xs=[]/\Q (.int (Builtin.Int.intBits i:Nat)) H) ta) (j1x a):=by
 intro F σ ρ H q Q r h k
 refine ha F σ ρ H _ _ r h fun r1 ρ1 x H1 h1 o1=>?_
 obtain⟨r1',k1,i1⟩:=o1.inF
 split at h1
 ·rename_i i
  have ex:x = .int i:=i1.int
  subst ex
  exact⟨by first | rfl | exact .inl rfl | trivial | simp[tyV],i,rfl,rfl,(k.after k1).int r1' h1⟩
 ·exact h1.elim
end
def Ite (K:PySem.W.Frag)(l:Addr):It :=
 ⟨fun i H=>∃xs x,SqL K H l xs/\xs[i]? = some x,fun i H v H'=>∃p x,v = .ref p/\H p=none/\H'=upd H p (.tup [.int (i:Nat),x])/\∀xs,SqL K H l xs->xs[i]? = some x,
  fun i H=>∃xs,SqL K H l xs/\xs.length<=i⟩
theorem v0b {P:Program}{w:World}{K:PySem.W.Frag}{elts:List Expr}{x1}{tpos:Pos}{e it l:Addr}(ne:e≠it) :
  Turn P w K (.Tuple elts x1 tpos) (Ite K l) [e,it] e (fun i h=>(∃old,IsEnum h e it (i:Nat) old)/\h.IsListIter it l i) where
 mem:=by simp
 obj:=fun i h st b hb=>by
  obtain⟨⟨old,he⟩,⟨o1,e1,c1,d1⟩⟩:=st
  simp only[List.mem_cons,List.not_mem_nil,or_false]at hb
  rcases hb with rfl | rfl
  ·exact⟨_,he,fun v q=>by cases q⟩
  ·exact⟨o1,e1,fun v q=>by rw[d1]at q;cases q⟩
 keep:=fun i h h' st k=>by
  obtain⟨⟨old,he⟩,h1⟩:=st
  exact⟨⟨old,k e (by simp) _ he⟩,h1.at fun o q=>k it (by simp) o q⟩
 item:=by
  intro X hP hw hK hc i pins s σ H E I hf st hg
  subst hP hw hK
  obtain⟨xs,x,q1,hx⟩:=hg
  obtain⟨⟨old,he⟩,h1⟩:=st
  obtain⟨its,rv,p1,_⟩:=I.list q1
  obtain⟨u,hu,ru⟩:=rv.get hx
  refine wpAny_pyNext_enum_item he h1 p1.isList (x:=u) (by simpa using hu) ne fun h' a1 a2 a3 a4 hk=>?_
  refine⟨_,rfl,wpAny_letOwnedTupleGo_enum (s:={s with heap:=h',toks:=s.toks+1}) a1 fun h2' he' hs'=>?_⟩
  have hs2:Heap.SameBut e h' h2':=hs'
  have ls:∀ {b o},s.heap.get? b=some o->b≠s.heap.objs.size:=fun e=>Nat.ne_of_lt (Heap.lt_size e)
  have es:e≠s.heap.objs.size:=ls he
  have up:∀b o,b∉[e,it]->s.heap.get? b=some o->h2'.get? b=some o:=fun b o hb q=>by
   simp only[List.mem_cons,List.not_mem_nil,or_false,not_or]at hb
   exact(hs2.2 b hb.1).trans (hk b o hb.1 hb.2 q)
  have I1:Inv X pins σ H {s with heap:=h2',toks:=s.toks+1}:=I.turns (t':=s.toks+1) up hf
  have fp:FpOk X pins H s.heap.objs.size:=I.fpOk (Nat.le_refl _) (I.hok.fresh (Nat.le_refl _))
  have g:h2'.get? s.heap.objs.size=some {cls:=.type "tuple",data:=.seq #[.int i s.toks,u]}:=(hs2.2 _ (Ne.symm es)).trans a3
  have I2:=I1.trackO (o:=.tup [.int (i:Nat),x]) fp ⟨by show 2<=sizeLine;decide,[.int i s.toks,u],.cons ⟨_,rfl⟩ (.cons ru .nil),_,g,rfl,_,rfl⟩
  refine⟨.ref s.heap.objs.size,upd H s.heap.objs.size (.tup [.int (i:Nat),x]),I2,rfl,⟨_,x,rfl,fp.1,rfl,fun zs hz=>by rw[I.list_inj hz q1];exact hx⟩,?_,fun b hb=>?_⟩
  ·refine⟨⟨u,by simpa using he'⟩,?_⟩
   obtain⟨o,q,r⟩:=a2;exact⟨o,(hs2.2 it (Ne.symm ne)).trans q,r⟩
  ·have hb':=(hf b hb).1
   have ne':b≠s.heap.objs.size:=by
    obtain⟨o1,e1,_⟩:=h1
    simp only[List.mem_cons,List.not_mem_nil,or_false]at hb
    rcases hb with rfl | rfl
    ·exact ls he
    ·exact ls e1
   rw[a0o ne'];exact hb'
 done:=by
  intro X hP hw hK hc i pins s σ H E I hf st hg
  subst hP hw hK
  obtain⟨xs,q1,hl⟩:=hg
  obtain⟨⟨old,he⟩,h1⟩:=st
  obtain⟨its,rv,p1,_⟩:=I.list q1
  have l1:=rv.length
  refine wpAny_pyNext_enum_end (I.ok.hd hc) he h1 p1.isList (by simp;omega) fun h' hk=>⟨rfl,I.turns (ch:=[e,it]) (t':=s.toks) (fun b o hb q=>?_) hf⟩
  simp only[List.mem_cons,List.not_mem_nil,or_false,not_or]at hb
  exact hk b o hb.2 q
 self:=fun _ _ _ _ _ st h=>by obtain⟨⟨old,he⟩,_⟩:=st;exact wpAny_pyIter_enum he h
def h1x (K:PySem.W.Frag)(t:TA):TI:=fun σ H R=>t σ H fun vs H1=>∃l xs,vs=[.ref l]/\SqL K H1 l xs/\R (Ite K l) H1
theorem d1l (K:PySem.W.Frag){X:Cx}{elts:List Expr}{x1}{tpos:Pos}{a:Expr}{ta:TA}{p pos:Pos}(hg:Gl X "enumerate")(hm:X.mg "enumerate" = none)(ha:PA X [a] ta)(hK:X.K=K:=by rfl)(hs:starEach [a] X.env=[(false,eval a X.env)]:=by rfl) :
  PI X (.Tuple elts x1 tpos) (.Call (.Name "enumerate" p) [a] [] pos) (h1x K ta):=by
 subst hK
 intro pins s σ H R I h
 refine Call_ (l0r I hg hm p0t (PyProof.Rows.callWith_type1 (thn (ha pos pins s σ H _ I h) fun us s1 ⟨vs,H1,I1,r1,q1⟩=>?_) hs rfl))
 obtain⟨l,xs,rfl,h1,q⟩:=q1
 obtain⟨u,rfl,ru⟩:=m0d r1
 cases ru
 obtain⟨its,_,p1,_⟩:=I1.list h1
 refine call_enumerate_list p1.isList fun h' he hi hsz hk=>?_
 refine wpAny_pyIter_enum he ?_
 refine⟨_,_,_,_,H1,rfl,I1.kept (t':=s1.toks) hk,v0b (show s1.heap.objs.size+1≠s1.heap.objs.size by omega),⟨⟨_,he⟩,hi⟩,fun b hb=>?_,q⟩
 have le:s1.heap.objs.size<=b:=by
  simp only[List.mem_cons,List.not_mem_nil,or_false]at hb
  rcases hb with rfl | rfl <;> omega
 exact I1.fpOk le (I1.hok.fresh le)
section
variable {K:PySem.W.Frag}{ts:TA}{as:AA}
def n0i (k:Nat):List D->List D
 | []=>[]
 | d::ds=>.tup [.int (k:Nat),d]::n0i (k+1) ds
theorem k0m:∀ {ds:List D} {b k:Nat} {d:D},(n0i b ds)[k]? = some d->∃x,ds[k]? = some x/\d = .tup [.int ((b+k:Nat):Int),x]
 | [],b,k,d,h=>by simp[n0i]at h
 | x::ds,b,0,d,h=>by
  simp only[n0i,List.getElem?_cons_zero,Option.some.injEq]at h
  exact⟨x,rfl,h.symm⟩
 | x::ds,b,k+1,d,h=>by
  simp only[n0i,List.getElem?_cons_succ]at h
  obtain⟨a,e1,e2⟩:=k0m (ds:=ds) (b:=b+1) (k:=k) h
  exact⟨a,by simpa using e1,by rw[e2,show b+1+k=b+(k+1)by omega]⟩
theorem k0l:∀(ds:List D) (b:Nat),(n0i b ds).length=ds.length
 | [],b=>rfl
 | x::ds,b=>by simp only[n0i,List.length_cons,k0l ds]
theorem c1t {S:Addr->Prop}{H:Hp}{l:Addr}{vs:List V}{ds:List D}(al:∀a,S a->H a≠none)(h1:SqL K H l vs)(r1:RepDs K (hid H S) vs ds):WkAt K S H (Ite K l) (n0i 0 ds):=by
 intro k
 constructor
 ·intro d e
  obtain⟨x,ex,rfl⟩:=k0m e
  rw[Nat.zero_add]
  obtain⟨v,e1,rv⟩:=r1.get ex
  refine⟨⟨vs,v,h1,e1⟩,fun z H' ⟨p,a,ez,hp,eH,ha⟩=>?_⟩
  have a1:=ha vs h1
  rw[e1]at a1
  cases a1
  subst eH ez
  have sm:Same H (upd H p (.tup [.int (k:Nat),v])):=(Same.refl H).new hp
  have sm':Same (hid H S) (hid (upd H p (.tup [.int (k:Nat),v])) S):=b0f fun a o e n=>⟨sm a o e,n⟩
  refine⟨sm,?_⟩
  unfold RepD
  exact⟨p,[.int (k:Nat),v],rfl,(f0e (fun z=>al p z hp) a0y),.cons (by unfold RepD;rfl) (.cons (rv.same sm') .nil)⟩
 ·intro z
  rw[k0l]at z
  exact⟨vs,h1,by rw[r1.length];exact z⟩
def j1t (pin:Nat->Bool)(as:AA):AI:=fun ρ q=>as ρ fun rs ρ1=>match rs with
 | [r1]=>(match z0a pin ρ1 r1 with
  | some (ds,c)=>q (n0i 0 ds) c ρ1
  | _=>False)
 | _=>False
theorem v0h {pin:Nat->Bool}(h:TAok K ts as):TIok K pin (h1x K ts) (j1t pin as):=by
 intro F σ ρ H q Rk r ha k
 refine h F σ ρ H _ _ r ha fun rs ρ1 vs H1 h1 r1 i1 k1=>?_
 split at h1
 ·obtain⟨x,rfl,ix⟩:=i1.one
  split at h1
  ·rename_i ds c e1
   obtain⟨l1,us1,rfl,s1,w1⟩:=y0z r1 ix e1
   refine⟨l1,us1,rfl,s1,k _ _ _ _ _ h1 r1 k1 fun σ2 ρ2 H2 sm sv pn al hc=>?_⟩
   obtain⟨v1,z1,rd1⟩:=w1 σ2 ρ2 H2 sm sv pn hc
   exact c1t (fun a z=>(al a z).1) z1 rd1
  ·exact h1.elim
 ·exact h1.elim
end
section
variable {prog:Program}{w:World}{A:Around}{it:Addr}{own wr:List Addr}{len:Nat}{Pv:Nat->Value->Prop}{Sx:Nat->Heap->Prop}{Rz:Result->Shared->Prop}
def i1x (prog:Program)(w:World)(A:Around)(op:CmpOp)(G:Heap->Prop)(P:Nat->Value->Prop)(bt:Nat->Nat->Bool):Prop :=
 ∀i j vi vj (s:Shared) (Q:Value->Shared->Prop) (E:Value->Shared->Prop),G s.heap->P i vi->P j vj->Q (.bool (bt i j)) s->wpAny (model prog w) A (richCompare op vi vj) Q E s
theorem e1b (dv:List (Str×Value))(G:Heap->Prop)(Wk:Walks prog w A.in1 it own wr len Pv Sx)(bt:Nat->Nat->Bool)(cmp:i1x prog w A.in1 .Lt G Pv bt)(T:Addr)(nT:T∉own)(hG:∀h h',G h->(∀b o,b∉wr->b≠T->h.get? b=some o->h'.get? b=some o)->G h') :
  ∀(k j:Nat) (s:Shared) (u:Value) (c:Nat),len - (j+1)=k->j+1<=len->G s.heap->Sx (j+1) s.heap->Pv (argBest bt j) u->s.heap.get? T=some {cls:=.type "list",dict:=none,data:=.seq #[u,u] c,slots:=#[]} ->
  (∀v g z,Pv (argBest bt (len - 1)) v->(∀b o,b∉wr->b≠T->s.heap.get? b=some o->g.get? b=some o)->Rz (.ok (.ret v)) {s with heap:=g,toks:=z})->codeAny (model prog w) A (.builtin "min.loop" ⟨[.ref it,.none,.ref T],dv⟩) Rz s:=by
 have nW:T∉wr:=fun z=>nT (Wk.sub _ z)
 have nm:(toString "min" ++ toString ".loop" : String) = "min.loop" := by decide
 intro k
 induction k with
 | zero =>
  intro j s u c hk hj hg hst hu hT kk
  have ej:j+1=len:=by omega
  refine codeAny_builtin F.entry_min_loop ?_
  rw[Around.under_plainId F.plain_min_loop _]
  refine wpAny_bind (wpAny_seqItems hT rfl ?_)
  refine wpAny_bind (wpAny_tryCatch (Wk.done s _ _ (ej▸hst) fun g z kp=>?_))
  refine wpAny_bind (wpAny_updateSeq (kp T _ nW hT) rfl (wpAny_bind (wpAny_letGo (wpAny_pure ?_))))
  exact kk u _ z (by rw[<- ej];exact hu) fun b o n1 n2 e=>(Heap.get?_update_other _ _ (Ne.symm n2)).trans (kp b o n1 e)
 | succ k ih =>
  intro j s u c hk hj hg hst hu hT kk
  have lt:j+1<len:=by omega
  refine codeAny_builtin F.entry_min_loop ?_
  rw[Around.under_plainId F.plain_min_loop _]
  refine wpAny_bind (wpAny_seqItems hT rfl ?_)
  refine wpAny_bind (wpAny_tryCatch (Wk.item (j+1) s _ _ lt hst fun v g z hv st2 kp=>?_))
  have hT2:=kp T _ nW hT
  have hg2:G g:=hG _ _ hg fun b o n1 _ e=>kp b o n1 e
  refine wpAny_bind (wpAny_pure ?_)
  refine wpAny_bind (wpAny_tryCatch (wpAny_holding (wpAny_bind (cmp (j+1) (argBest bt j) v u _ _ _ hg2 hv hu ?_))))
  refine wpAny_bind (wpAny_holding (wpAny_truthy_bool (wpAny_bind (wpAny_letGo (wpAny_pure ?_)))))
  cases hb:bt (j+1) (argBest bt j)with
  | true =>
   refine wpAny_bind (wpAny_updateSeq hT2 rfl (wpAny_bind (wpAny_letGo ?_)))
   rw[nm]
   refine wpAny_pure ⟨plainId_quiet F.plain_min_loop _,ih (j+1) _ v _ (by omega) lt (hG _ _ hg2 fun b o n1 n2 e=>(Heap.get?_update_other _ _ (Ne.symm n2)).trans e) (Wk.frame _ _ _ st2 fun b ho o e=>?_) (by simp only[argBest,hb,if_true];exact hv) (Heap.get?_update_self _ hT2 rfl) fun v2 g2 z2 h2 k2=>?_⟩
   ·refine(Heap.get?_update_other _ _ (fun q:T=b=>nT ?_)).trans e
    rw[q];exact ho
   ·exact kk v2 g2 z2 h2 fun b o n1 n2 e=>k2 b o n1 n2 ((Heap.get?_update_other _ _ (Ne.symm n2)).trans (kp b o n1 e))
  | false =>
   refine wpAny_bind (wpAny_letGo ?_)
   rw[nm]
   refine wpAny_pure ⟨plainId_quiet F.plain_min_loop _,ih (j+1) _ u c (by omega) lt hg2 st2 (by simp only[argBest,hb,Bool.false_eq_true,if_false];exact hu) hT2 fun v2 g2 z2 h2 k2=>?_⟩
   exact kk v2 g2 z2 h2 fun b o n1 n2 e=>k2 b o n1 n2 (kp b o n1 e)
end
theorem m0w:∀ns:List Int,HT.lexLt ns ns=false
 | []=>rfl
 | n::ns=>by rw[HT.lexLt_cons,if_pos rfl];exact m0w ns
theorem o0y:∀ {as bs cs:List Int},HT.lexLt as bs=true->HT.lexLt bs cs=true->HT.lexLt as cs=true
 | [],[],_,h,_=>by rw[HT.lexLt_nil_nil]at h;cases h
 | [],_::_,[],_,h=>by rw[HT.lexLt_cons_nil]at h;cases h
 | [],_::_,_::_,_,_=>HT.lexLt_nil_cons ..
 | _::_,[],_,h,_=>by rw[HT.lexLt_cons_nil]at h;cases h
 | _::_,_::_,[],_,h=>by rw[HT.lexLt_cons_nil]at h;cases h
 | a::as,b::bs,c::cs,h1,h2=>by
  rw[HT.lexLt_cons]at h1 h2 ⊢
  by_cases e1:a=b
  ·subst e1
   rw[if_pos rfl]at h1
   by_cases e2:a=c
   ·rw[if_pos e2]at h2 ⊢;exact o0y h1 h2
   ·rw[if_neg e2]at h2 ⊢;exact h2
  ·rw[if_neg e1]at h1
   have h1':=of_decide_eq_true h1
   by_cases e2:b=c
   ·subst e2
    rw[if_neg e1];exact h1
   ·rw[if_neg e2]at h2
    have h2':=of_decide_eq_true h2
    rw[if_neg (by omega)];exact decide_eq_true (by omega)
theorem k0r (f:Nat->List Int):∀k,argBest (fun i j=>HT.lexLt (f i) (f j)) k<=k/\∀j,j<=k->HT.lexLt (f j) (f (argBest (fun i j=>HT.lexLt (f i) (f j)) k))=false
 | 0=>by
  refine⟨Nat.le_refl _,fun j hj=>?_⟩
  have:j=0:=by omega
  subst this;exact m0w _
 | k+1=>by
  obtain⟨h1,h2⟩:=k0r f k
  simp only[argBest]
  by_cases hc:HT.lexLt (f (k+1)) (f (argBest (fun i j=>HT.lexLt (f i) (f j)) k))=true
  ·rw[if_pos hc]
   refine⟨Nat.le_refl _,fun j hj=>?_⟩
   rcases Nat.lt_or_ge j (k+1)with hlt | hge
   ·cases hd:HT.lexLt (f j) (f (k+1))with
    | false=>rfl
    | true=>have:=o0y hd hc;rw[h2 j (by omega)]at this;cases this
   ·have:j=k+1:=by omega
    subst this;exact m0w _
  ·rw[if_neg hc]
   refine⟨by omega,fun j hj=>?_⟩
   rcases Nat.lt_or_ge j (k+1)with hlt | hge
   ·exact h2 j (by omega)
   ·have:j=k+1:=by omega
    subst this
    cases hd:HT.lexLt (f (k+1)) (f (argBest (fun i j=>HT.lexLt (f i) (f j)) k))with
    | false=>rfl
    | true=>exact(hc hd).elim
section
variable {K:PySem.W.Frag}{te:TE}{ae:AE}{ts:TA}{as:AA}
abbrev tupI (ns:List Int):D:=.tup (ns.map D.int)
end
open Builtin.SmallTypes (nextOf)
section
variable {K:PySem.W.Frag}{ta td tv:TE}{ad a av:AE}{ts:TA}{as:AA}
def w0w:List R->Option (List Key)
 | []=>some []
 | .d d::rs=>(match dKey d,w0w rs with | some k,some ks=>some (k::ks) | _,_=>none)
 | _=>none
theorem s0r {F:Fr}{σ:St}{ρ:En}{H:Hp}:∀ {rs:List R} {vs:List V} {k:List Key},InFs K F σ ρ H vs rs->w0w rs=some k->vs=k.map kV
 | [],_,k,.nil,e=>by simp only[w0w,Option.some.injEq]at e;subst e;rfl
 | .d d::rs,_,k,.cons h t,e=>by
  unfold w0w at e
  split at e
  ·rename_i k1 ks e1 e2
   cases e
   rw[s0r t e2,h1q h e1];rfl
  ·cases e
 | .o _::_,_,_,_,e=>by cases e
 | .n _::_,_,_,_,e=>by cases e
 | .t _::_,_,_,_,e=>by cases e
 | .x _::_,_,_,_,e=>by cases e
def aDNewT:AE:=fun ρ q=>q (.n (.dt [])) ρ
theorem n0x:TEok K tDNewT aDNewT:=fun F σ ρ H q Q r h k p hp=>k (.n (.dt [])) ρ _ _ h ⟨H,p,_,r,.refl,rfl,⟨p,[],rfl,a0y,rfl,.nil⟩,hp,rfl,rfl⟩
theorem r0k {F:Fr}{σ:St}{ρ:En}{H:Hp}{i:Nat}{x:V}{kvs:List (List Key×D)}(r:Rel K F σ ρ H)(ei:σ[i]? = some (some x))(hg:gt ρ i = .dt kvs):∃t ks,x = .ref t/\H t=some (.dT ks)/\ks.map Prod.fst=kvs.map Prod.fst/\RepDs K (hid H (hs F σ ρ)) (ks.map Prod.snd) (kvs.map Prod.snd):=by
 have s:=r.sl i
 rw[hg,ei]at s
 obtain⟨t,ks,e,h1,h2,h3⟩:=s
 injection e with e;injection e with e
 exact⟨t,ks,e,h1,h2,h3⟩
theorem InFs.length {F:Fr}{σ:St}{ρ:En}{H:Hp}{vs:List V}{rs:List R}(h:InFs K F σ ρ H vs rs):vs.length=rs.length:=by
 induction h with
 | nil=>rfl
 | cons _ _ ih=>rw[List.length_cons,List.length_cons,ih]
def i1t (x o:AE)(as:AA):AS:=fun e ρ=>x ρ fun r ρ1=>sto [r.frz] ρ1 fun ds ρ2=>o ρ2 fun r2 ρ3=>match r2 with
 | .o j=>as ρ3 fun rs ρ4=>(match w0w rs,gt ρ4 j,ds with
  | some k,.dt kvs,[d]=>rs.length<=1000/\kvs.length<=1000000/\e.nx (pt ρ4 j (.dt (putD kvs k d)))
  | _,_,_=>False)
 | _=>False
theorem v0w {pr:Nat->Bool}(h:TEok K tv av)(ho:TEok K td ad)(hs':TAok K ts as):TSok K pr (d1g td (tTup ts) tv) (i1t av ad as):=by
 intro F σ ρ H D e hp r ha k
 refine h F σ ρ H _ _ r ha fun r1 ρ1 v H1 h1 o=>?_
 obtain⟨r',k1,i1⟩:=o.inF
 obtain⟨ds,ρ2,h2,r2,k2,rd⟩:=h0a r' (.cons i1 .nil) h1
 refine ho F σ ρ2 H1 _ _ r2 h2 fun r3 ρ3 x H3 h3 o3=>?_
 obtain⟨r3',k3,i3⟩:=o3.inF
 split at h3
 ·rename_i j
  have ej:σ[j]? = some (some x):=i3
  refine hs' F σ ρ3 H3 _ _ r3' h3 fun rs ρ4 vs H4 h4 r4 i4 k4=>?_
  split at h4
  ·rename_i kk kvs d ek hg
   obtain⟨hl,hz,h4⟩:=h4
   refine⟨by rw[i4.length,sizeLine_eq];omega,fun p hpn=>?_⟩
   have kf:Kp σ ρ4 ρ4 H4 (upd H4 p (.tup vs)):=Kp.fresh hpn
   have r5:=r4.fresh (o:=.tup vs) hpn
   obtain⟨t,ks,rfl,ht,e1,e2⟩:=r0k r5 ej hg
   unfold RepDs at rd
   have rd5:=(RepD.same rd.1 ((k3.trans k4).trans kf).vis)
   obtain⟨p1,p2⟩:=w0e kk rd5 e1 e2
   have hw:=r5.write (i:=j) (l:=t) (o:=.dT (putK ks kk v)) (s:=.dt (putD kvs kk d)) (by rw[hg];rfl) ej rfl ⟨t,_,rfl,a0y,p1,p2⟩
   refine⟨t,_,rfl,DPut.t ht (by rw[a0y,s0r i4 ek]) (o0a (by rw[s0q e1];exact hz)),k.nx _ _ _ h4 hw.1⟩
  ·exact h4.elim
 ·exact h3.elim
end
theorem c0j:∀(names:List (Str×NameKind)) (n:Nat) (acc:List (Str×Addr)),cellsFrom n names acc=cellsFrom n names []++acc
 | [],n,acc=>rfl
 | (x,k)::r,n,acc=>by
  unfold cellsFrom
  split
  ·rw[c0j r (n+1) ((x,n)::acc),c0j r (n+1) [(x,n)],List.append_assoc];rfl
  ·exact c0j r n acc
theorem f0q:∀(names:List (Str×NameKind)) (n:Nat) (acc:List (Str×Addr)) {x:Str} {c:Addr},(x,c)∈cellsFrom n names acc->(x,NameKind.cell)∈names∨(x,c)∈acc
 | [],n,acc,x,c,h=>.inr h
 | (y,k)::r,n,acc,x,c,h=>by
  unfold cellsFrom at h
  split at h
  ·rename_i hk
   rcases f0q r _ _ h with q | q
   ·exact .inl (.tail _ q)
   ·rcases List.mem_cons.mp q with z | z
    ·cases z
     have:k = .cell:=by simpa using hk
     subst this
     exact .inl (.head _)
    ·exact .inr z
  ·rcases f0q r _ _ h with q | q
   ·exact .inl (.tail _ q)
   ·exact .inr q
theorem f0r:∀(names:List (Str×NameKind)) (n:Nat) (acc:List (Str×Addr)) {x:Str},(x,NameKind.cell)∈names->∃c,(x,c)∈cellsFrom n names acc
 | [],n,acc,x,h=>nomatch h
 | (y,k)::r,n,acc,x,h=>by
  unfold cellsFrom
  rcases List.mem_cons.mp h with z | z
  ·cases z
   rw[if_pos (show(NameKind.cell==NameKind.cell)=true from rfl),c0j]
   exact⟨n,List.mem_append.mpr (.inr (.head _))⟩
  ·split
   ·exact f0r r _ _ z
   ·exact f0r r _ _ z
def h0b (scope:Scope)(C:Addr)(env:Env):List (Str×Addr):=cellsFrom (C+1) scope.names (d0k scope env)
def relS (scope sc:Scope):Scope :=
 {scope with names:=scope.names.map fun(n,k)=>if(k == .free&&sc.kind == .function&&sc.names.lookup n==some .cell)then(n,.cell)else(n,k)}
def blkC (X:Cx)(scope:Scope)(N:List Str)(s:Shared)(H:Hp)(C:Addr)(fp:List Addr):Cx where
 prog:=X.prog
 w:=X.w
 K:=X.K
 mg:=X.mg
 base:=X.base
 A:=X.A
 N:=N
 s₀:=s
 H₀:=H
 env:=compEnvC scope (h0b scope C X.env) C X.env
 outer:=X.stack
 stack:=X.stack
 ex:=fp
 fn:=fun x=>scope.names.lookup x==some .cell
 calm:=X.calm
 pn:=[]
 xe:=fun _ _=>False
section
variable {M:Model}{A:Around}{E:Value->Shared->Prop}{s:Shared}
theorem j0f {scope:Scope}{cl:List (Str×Addr)}{env:Env}{Q:Env->Shared->Prop}
  (h:Q {scope,locals:=s.heap.objs.size,globals:=env.globals,cells:=cellsFrom (s.heap.objs.size+1) scope.names cl,qual:=env.qual,func:=none,code:=env.code,frame:=env.frame,builtins:=env.builtins}
   {s with heap:=pushCells (s.heap.push {cls:=.type "dict",data:=.dict #[]}) scope.names}) :
  wpAny M A (newFunctionEnv scope env.globals cl [] env.qual none .none (some env)) Q E s:=by
 simp only[newFunctionEnv,Option.isSome_some,if_true]
 refine wpAny_bind (wpAny_alloc ?_)
 refine wpAny_bind (wpAny_layCells _ (fun name kind cells=>by cases hkc:kind==NameKind.cell <;> simp[hkc]) _ _ _ _ ?_)
 rw[show({s with heap:=s.heap.push {cls:=.type "dict",data:=.dict #[]}}:Shared).heap.objs.size=s.heap.objs.size+1 from Heap.size_push ..]
 refine wpAny_bind ?_
 rw[List.forIn_nil]
 exact wpAny_pure (wpAny_pure h)
end
section
variable {X:Cx}
structure BlkC (X:Cx)(scope:Scope)(own:List Str)(js:List Nat):Prop where
 kind:scope.kind = .function
 cells:∀y∈scope.names,y.2 = .cell->scope.names.lookup y.1=some .cell
 names:∀y∈scope.names,y.2 = .local->scope.names.lookup y.1=some .local
 free:∀y∈scope.names,y.2 = .free->X.env.kindOf y.1=some .cell∨X.env.kindOf y.1=some .free
 uniq:∀x,(x,NameKind.free)∈scope.names->scope.names.lookup x=some .free
 nd:(own++capN X.N js).Nodup
 cap:∀j∈js,j<X.N.length/\((X.N[j]?).getD "",NameKind.free)∈scope.names
def i1n (sc:Scope)(N:List Str)(scope:Scope)(own:List Str)(js:List Nat):Bool :=
 scope.kind == .function&&scope.names.all (fun y=>y.2 != .cell||scope.names.lookup y.1==some .cell)&&scope.names.all (fun y=>y.2 != .local||scope.names.lookup y.1==some .local) &&
 scope.names.all (fun y=>y.2 != .free||sc.names.lookup y.1==some .cell||sc.names.lookup y.1==some .free)&&scope.names.all (fun y=>y.2 != .free||scope.names.lookup y.1==some .free) &&
 decide (own++capN N js).Nodup&&js.all (fun j=>decide (j<N.length)&&scope.names.any fun y=>y.1==(N[j]?).getD "" && y.2 == .free)
theorem BlkC.of {scope:Scope}{own:List Str}{js:List Nat}(sc:Scope)(N:List Str)(h:i1n sc N scope own js=true:=by decide +kernel)(e1:X.env.scope=sc:=by rfl)(e2:X.N=N:=by rfl):BlkC X scope own js:=by
 subst e1 e2
 unfold i1n at h
 simp only[Bool.and_eq_true,List.all_eq_true,decide_eq_true_eq,beq_iff_eq]at h
 obtain⟨⟨⟨⟨⟨⟨h1,h2⟩,h3⟩,h4⟩,h5⟩,h6⟩,h7⟩:=h
 refine⟨h1,fun y hy e=>?_,fun y hy e=>?_,fun y hy e=>?_,fun x hx=>?_,h6,fun j hj=>?_⟩
 ·have:=h2 y hy
  simpa [e] using this
 ·have:=h3 y hy
  simpa [e] using this
 ·have:=h4 y hy
  simp only[e,bne_self_eq_false,Bool.false_or,Bool.or_eq_true,beq_iff_eq]at this
  exact this
 ·have:=h5 _ hx
  simpa using this
 ·obtain⟨a,b⟩:=h7 j hj
  refine⟨a,?_⟩
  obtain⟨y,hy,e⟩:=List.any_eq_true.mp b
  simp only[Bool.and_eq_true,beq_iff_eq]at e
  obtain⟨e1,e2⟩:=e
  rw[<- e1,<- e2]
  exact hy
theorem g0m {scope:Scope}{C:Addr}{env:Env}{x:Str}{c:Addr}(h:(h0b scope C env).lookup x=some c):((x,c)∈cellsFrom (C+1) scope.names [])∨env.cells.lookup x=some c:=by
 unfold h0b at h
 rw[c0j,List.lookup_append]at h
 cases e:(cellsFrom (C+1) scope.names []).lookup x with
 | some d=>rw[e]at h;cases h;exact .inl (PySem.mem_of_lookup e)
 | none=>rw[e]at h;exact .inr (d0n h)
theorem m0a {scope:Scope}{C:Addr}{env:Env}{x:Str}(h:(x,NameKind.cell)∈scope.names):∃c,(h0b scope C env).lookup x=some c/\(x,c)∈cellsFrom (C+1) scope.names []:=by
 obtain⟨c,hc⟩:=f0r scope.names (C+1) [] h
 obtain⟨d,hd⟩:=e0i hc
 refine⟨d,?_,PySem.mem_of_lookup hd⟩
 unfold h0b
 rw[c0j,List.lookup_append,hd];rfl
theorem m0b {scope:Scope}{C:Addr}{env:Env}{x:Str}{c:Addr}(hn:(x,NameKind.cell)∉scope.names)(h:(x,NameKind.free)∈scope.names)(hc:env.cells.lookup x=some c):(h0b scope C env).lookup x=some c:=by
 unfold h0b
 rw[c0j,List.lookup_append]
 have:(cellsFrom (C+1) scope.names []).lookup x=none:=by
  cases e:(cellsFrom (C+1) scope.names []).lookup x with
  | none=>rfl
  | some d =>
   rcases f0q _ _ _ (PySem.mem_of_lookup e)with q | q
   ·exact(hn q).elim
   ·cases q
 rw[this]
 exact i0k h hc
theorem a1q {scope:Scope}{own:List Str}{js:List Nat}{pins:List (Addr×Obj)}{σ:St}{H:Hp}{s:Shared}{fp:List Addr}{C:Addr}{h1:Heap}{tk:Nat}(B:BlkC X scope own js)(I:Inv X pins σ H s)
  (hfp:∀b∈fp,FpOk X pins H b) (hfo:∀b∈fp,∃o,s.heap.get? b=some o) (hC:s.heap.objs.size<=C) (hns:h1.Ns C fun _=>none) (hcs:CellsOk h1 (C+1) (cellsFrom (C+1) scope.names [])) (hk:∀b o,s.heap.get? b=some o->h1.get? b=some o) :
  Inv (blkC X scope (own++capN X.N js) s H C fp) [] (bst own.length σ js) H {s with heap:=h1,toks:=tk}:=by
 have kindC:∀x,(blkC X scope (own++capN X.N js) s H C fp).env.kindOf x=some .cell∨(blkC X scope (own++capN X.N js) s H C fp).env.kindOf x=some .free->(x,NameKind.cell)∈scope.names∨(x,NameKind.free)∈scope.names:=fun x hx=>by
  have hx':(relabel scope X.env).names.lookup x=some .cell∨(relabel scope X.env).names.lookup x=some .free:=hx
  rcases hx' with z | z
  ·rcases b0x z with q | ⟨_,q⟩
   ·exact .inl (PySem.mem_of_lookup q)
   ·exact .inr (PySem.mem_of_lookup q)
  ·rcases b0x z with q | ⟨_,q⟩
   ·exact .inr (PySem.mem_of_lookup q)
   ·exact .inr (PySem.mem_of_lookup q)
 have notC:∀x,(x,NameKind.free)∈scope.names->(x,NameKind.cell)∉scope.names:=fun x hf hc=>by
  have:=B.cells (x,.cell) hc rfl
  rw[B.uniq x hf]at this
  cases this
 have ownGt:∀ {x c},(x,c)∈cellsFrom (C+1) scope.names []->C<c/\h1.IsCell c none:=fun{x c} e=>⟨(hcs.empty x c e).2,(hcs.empty x c e).1⟩
 have has:∀x,(x,NameKind.free)∈scope.names->∃c,X.env.cells.lookup x=some c:=fun x hx=>I.ok.has x (B.free (x,.free) hx rfl)
 have old:∀ {x c},(h0b scope C X.env).lookup x=some c->((x,c)∈cellsFrom (C+1) scope.names [])∨X.env.cells.lookup x=some c:=fun e=>g0m e
 have cellLt:∀ {x c},X.env.cells.lookup x=some c->c<s.heap.objs.size:=fun{x c} e=>by
  obtain⟨v,o,ho,_⟩:=I.cell x c e
  exact Heap.lt_size ho
 have fpLt:∀b∈fp,b<s.heap.objs.size:=fun b hb=>let ⟨_,e⟩:=hfo b hb;Heap.lt_size e
 have fsOk:∀b∈frs X.stack,b∈X.env.locals::X.fs:=I.stkSub
 refine⟨⟨I.ok.mod,?_,I.ok.glob,I.ok.blt,hC,fun x y c e1 e2=>?_,fun x hx=>?_,fun x c z e=>?_,I.ok.hd,I.ok.frames,.inl rfl,fun b hb=>⟨?_,fun x c e=>?_⟩,I.bs,Nat.le_trans I.ok.bsz I.sz,
   fun b o e hb=>?_,fun b hb hf=>?_,I.stack,I.stkFree⟩,rfl,I.bare,Un.kept hk,⟨_,hns,fun i x v e1 e2 e3=>?_⟩,fun x c e=>?_,?_,fun x c e=>?_,fun p hp=>absurd hp (by show p∉[]++[];simp),I.hok.kept hk,?_⟩
 ·show(relabel scope X.env).kind = .function
  exact B.kind
 ·rcases old e1 with q1 | q1
  ·rcases old e2 with q2 | q2
   ·exact PySem.name_of_addr hcs.apart q1 q2
   ·exact absurd (cellLt q2) (Nat.not_lt.mpr (Nat.le_trans hC (Nat.le_of_lt (ownGt q1).1)))
  ·rcases old e2 with q2 | q2
   ·exact absurd (cellLt q1) (Nat.not_lt.mpr (Nat.le_trans hC (Nat.le_of_lt (ownGt q2).1)))
   ·exact I.ok.inj x y c q1 q2
 ·rcases kindC x hx with q | q
  ·obtain⟨c,e,_⟩:=m0a (C:=C) (env:=X.env) q
   exact⟨c,e⟩
  ·obtain⟨c,e⟩:=has x q
   exact⟨c,m0b (notC x q) q e⟩
 ·have z0:(scope.names.lookup x==some NameKind.cell)=true:=z
  have z':scope.names.lookup x=some .cell:=by simpa using z0
  obtain⟨c',e',m'⟩:=m0a (C:=C) (env:=X.env) (PySem.mem_of_lookup z')
  have e'':(h0b scope C X.env).lookup x=some c:=e
  rw[e']at e''
  cases e''
  exact Nat.le_trans hC (Nat.le_of_lt (ownGt m').1)
 ·exact Nat.ne_of_lt (Nat.lt_of_lt_of_le (fpLt b hb) hC)
 ·rcases old e with q | q
  ·exact Nat.ne_of_gt (Nat.lt_of_lt_of_le (fpLt b hb) (Nat.le_trans hC (Nat.le_of_lt (ownGt q).1)))
  ·exact(hfp b hb).2.2.2.2.1 x c q
 ·have e1:=I.bs b o e
  obtain⟨f0,f1,f2,f3,f4,f5⟩:=hfp b hb
  rcases f3 with z | z
  ·exact I.ok.noex b o e z
  ·exact absurd (Nat.lt_of_lt_of_le (Heap.lt_size (I.ok.bs b o e).1) z) (Nat.lt_irrefl _)
 ·obtain⟨f0,f1,f2,f3,f4,f5⟩:=hfp b hb
  rcases List.mem_cons.mp (fsOk b hf)with z | z
  ·exact f1 z
  ·exact f2 z
 ·-- a captured name's value
  have hi:own.length<=i:=by
   rcases Nat.lt_or_ge i own.length with z | z
   ·exfalso
    have e2':(List.replicate own.length (none:Option V)++capt σ js)[i]? = some (some v):=e2
    rw[List.getElem?_append_left (by simpa using z),List.getElem?_replicate]at e2'
    split at e2' <;> cases e2'
   ·exact z
  have e1':(own++capN X.N js)[i]? = some x:=e1
  have e2':(List.replicate own.length (none:Option V)++capt σ js)[i]? = some (some v):=e2
  rw[List.getElem?_append_right hi]at e1'
  rw[List.getElem?_append_right (by simpa using hi),List.length_replicate]at e2'
  unfold capN at e1'
  unfold capt at e2'
  rw[List.getElem?_map]at e1' e2'
  cases ej:js[i - own.length]? with
  | none=>rw[ej]at e1';cases e1'
  | some j =>
   rw[ej]at e1' e2'
   have e1'':(X.N[j]?).getD "" = x:=Option.some.inj e1'
   have e2'':(σ[j]?).getD none=some v:=Option.some.inj e2'
   obtain⟨hj,hm⟩:=B.cap j (List.mem_of_getElem? ej)
   have eN:X.N[j]? = some x:=by
    rw[List.getElem?_eq_getElem hj]at e1'' ⊢
    exact congrArg some e1''
   have eS:σ[j]? = some (some v):=by
    cases q:σ[j]? with
    | none=>rw[q]at e2'';cases e2''
    | some u=>rw[q]at e2'';exact congrArg some e2''
   rw[e1'']at hm
   obtain⟨m,_,hl⟩:=I.loc
   have hv:Vis X.env.scope x:=by
    rcases B.free (x,.free) hm rfl with z | z
    ·exact .inr (.inl z)
    ·exact .inr (.inr z)
   obtain⟨u,r,l⟩:=hl j x v eN eS hv
   obtain⟨c,hc⟩:=has x hm
   refine⟨u,r,.inr ⟨?_,c,m0b (notC x hm) hm hc,?_⟩⟩
   ·rcases e3 with z | z | z
    ·exfalso
     have z':(relabel scope X.env).names.lookup x=some .local:=z
     rcases b0x z' with q | ⟨q,_⟩
     ·rw[B.uniq x hm]at q
      cases q
     ·cases q
    ·exact .inl z
    ·exact .inr z
   ·rcases l with⟨k1,_⟩ | ⟨k2,c2,e2,ic⟩
    ·rcases B.free (x,.free) hm rfl with t | t <;> (rw[k1]at t;cases t)
    ·rw[hc]at e2;cases e2
     obtain⟨o,ho,hd⟩:=ic
     exact⟨o,hk c o ho,hd⟩
 ·rcases old e with q | q
  ·exact⟨none,(ownGt q).2⟩
  ·obtain⟨v,o,ho,hd⟩:=I.cell x c q
   exact⟨v,o,hk c o ho,hd⟩
 ·exact I.hok.fresh hC
 ·rcases old e with q | q
  ·exact I.hok.fresh (Nat.le_trans hC (Nat.le_of_lt (ownGt q).1))
  ·exact I.freeC x c q
 ·rw[h0k]
  show _=(own++capN X.N js).length
  unfold capN
  simp
theorem k0o {elt tg iter:Expr}{ifs:List Expr}{scope:Scope}{pos:Pos}{own:List Str}{js:List Nat}{g:TG}{tc:TT}{te:TE}{Q:VK}{pins:List (Addr×Obj)}{σ:St}{s2:Shared}{itv:Value}{E:Value->Shared->Prop}
  {RR:Value->Addr->Result->Shared->Prop} (hc:X.calm=true) (B:BlkC X scope own js) (hg:∀s H C fp,(own++capN X.N js).Nodup->PG (blkC X scope (own++capN X.N js) s H C fp) tg g) (ht:∀s H C fp,PTs (blkC X scope (own++capN X.N js) s H C fp) ifs tc)
  (he:∀s H C fp,PE (blkC X scope (own++capN X.N js) s H C fp) elt te)
  (h:PIE X pins σ tg (fun J H1=>f1h J own.length js g tc te Q σ H1) itv s2)
  (hR:∀C acc s',y0w X pins σ Q C acc s'->RR acc C (.ok .next) s') :
  wpAny (model X.prog X.w) X.A (newList []) (fun acc s3=>wpAny (model X.prog X.w) X.A (newFunctionEnv scope X.env.globals (d0k scope X.env) [] X.env.qual none .none (some X.env)) (fun cenv s4 =>
   codeAny (model X.prog X.w) X.A (.compStart (.ListComp elt [⟨tg,iter,ifs,0⟩] scope pos) 0 itv acc {cenv with scope:=relabel scope X.env}) (RR acc cenv.locals) s4) E s3) E s2:=by
 obtain⟨it,fp,tn,J,H2,rfl,I2,T,st2,f2,W,⟨m0,w0⟩,turn⟩:=h
 refine wpAny_newObj_type (j0f ?_)
 generalize hPu:s2.heap.push {cls:=.type "list",dict:=none,data:=.seq ([]:List Value).toArray}=Pu
 dsimp only
 have hDC:Pu.objs.size=s2.heap.objs.size+1:=by rw[<- hPu,Heap.size_push]
 generalize hD:s2.heap.objs.size=D at hDC ⊢
 have gD:Pu.get? D=some {cls:=.type "list",dict:=none,data:=.seq ([]:List Value).toArray}:=by
  rw[<- hPu,<- hD];exact Heap.get?_push_size _ rfl
 have hns1:(pushCells (Pu.push {cls:=.type "dict",data:=.dict #[]}) scope.names).Ns Pu.objs.size fun _=>none:=(Heap.Ns.new Pu (.type "dict")).keeps (pushCells_keeps _ _)
 have hcs1:CellsOk (pushCells (Pu.push {cls:=.type "dict",data:=.dict #[]}) scope.names) (Pu.objs.size+1) (cellsFrom (Pu.objs.size+1) scope.names []):=by
  have ok:=cellsFrom_ok scope.names (Pu.push {cls:=.type "dict",data:=.dict #[]}) (Pu.objs.size+1) [] ⟨fun _ _ hm=>(nomatch hm),List.Pairwise.nil⟩ (by rw[Heap.size_push];exact Nat.le_refl _)
  rw[Heap.size_push]at ok
  exact ok
 have keep0:∀b o,Pu.get? b=some o->(pushCells (Pu.push {cls:=.type "dict",data:=.dict #[]}) scope.names).get? b=some o:=fun b o e=>pushCells_keeps _ _ b o (Heap.get?_push_of_some _ e)
 generalize hh1:pushCells (Pu.push {cls:=.type "dict",data:=.dict #[]}) scope.names=h1 at hns1 hcs1 keep0 ⊢
 generalize hC:Pu.objs.size=C at hns1 hcs1 hDC ⊢
 have ltDC:D<C:=by rw[hDC];exact Nat.lt_succ_self D
 have neDC:D≠C:=Nat.ne_of_lt ltDC
 have keep1:∀b o,s2.heap.get? b=some o->h1.get? b=some o:=fun b o e=>keep0 b o (by
  rw[<- hPu]
  exact Heap.get?_push_of_some _ e)
 have gD1:h1.get? D=some {cls:=.type "list",dict:=none,data:=.seq ([]:List Value).toArray}:=keep0 D _ gD
 have szD:s2.heap.objs.size<=D:=Nat.le_of_eq hD
 have szC:s2.heap.objs.size<=C:=Nat.le_trans szD (Nat.le_of_lt ltDC)
 have old:∀ {b:Addr},b<s2.heap.objs.size->b≠D/\b≠C:=fun hb=>⟨Nat.ne_of_lt (Nat.lt_of_lt_of_le hb szD),Nat.ne_of_lt (Nat.lt_of_lt_of_le hb szC)⟩
 have fpo:∀b∈fp,∃o,s2.heap.get? b=some o:=fun b hb=>let ⟨o,e,_⟩:=T.obj 0 _ st2 b hb;⟨o,e⟩
 have fpD:∀b∈fp,b≠D/\b≠C:=fun b hb=>by
  obtain⟨o,e⟩:=fpo b hb
  exact old (Heap.lt_size e)
 have clD:∀x d,X.env.cells.lookup x=some d->d≠D/\d≠C:=fun x d e=>by
  obtain⟨v,o,ho,_⟩:=I2.cell x d e
  exact old (Heap.lt_size ho)
 have pinD:∀p∈X.pn++pins,p.1≠D/\p.1≠C:=fun p hp=>by
  exact old (Heap.lt_size (I2.pin p hp).1)
 have locD:D≠X.env.locals/\C≠X.env.locals:=by
  exact⟨(old I2.lt).1.symm,(old I2.lt).2.symm⟩
 let Y:=blkC X scope (own++capN X.N js) s2 H2 C fp
 have IB:Inv Y [] (bst own.length σ js) H2 {s2 with heap:=h1}:=a1q B I2 f2 fpo szC hns1 hcs1 keep1
 have fpB:∀ {H':Hp} {pl:List (Addr×Obj)},(∀b∈fp,H' b=none)->(∀p∈pl,p.1=D)->∀b∈fp,FpOk Y pl H' b:=fun{H' pl} hn hp b hb=>by
  obtain⟨f0,f1,f3,f4,f5,f6⟩:=f2 b hb
  refine⟨hn b hb,(fpD b hb).2,fun z=>?_,.inl hb,fun x c e=>?_,fun p q=>?_⟩
  ·rcases List.mem_cons.mp (I2.stkSub b z)with z | z
   ·exact f1 z
   ·exact f3 z
  ·rcases g0m e with q | q
   ·obtain⟨o,eo⟩:=fpo b hb
    exact Nat.ne_of_gt (Nat.lt_of_lt_of_le (Heap.lt_size eo) (Nat.le_trans szC (Nat.le_of_lt (hcs1.empty _ _ q).2)))
   ·exact f5 x c q
  ·have q':p∈pl:=by simpa [Y,blkC] using q
   rw[hp p q']
   exact(fpD b hb).1.symm
 have clB:∀x d,Y.env.cells.lookup x=some d->d≠D:=fun x d e=>by
  rcases g0m e with q | q
  ·exact Nat.ne_of_gt (Nat.lt_trans ltDC (hcs1.empty _ _ q).2)
  ·exact(clD x d q).1
 have notFs:D∉Y.fs:=fun z=>by
  obtain⟨_,o,ho,_⟩:=IB.ok.funs.mem z
  exact(old (Heap.lt_size (show s2.heap.get? D=some o from ho))).1 rfl
 have loop:∀s3:Shared,s3={s2 with heap:=h1} ->
   codeAny (model X.prog X.w) X.A (.compLoop (.ListComp elt [⟨tg,iter,ifs,0⟩] scope pos) 0 (.ref it) (.ref D) (compEnvC scope (h0b scope C X.env) C X.env)) (RR (.ref D) C) s3:=by
  rintro s3 rfl
  refine k0p (fun n s'=>∃(i:Nat) (ys:List V) (its:List Value) (k:Nat) (H':Hp),Inv Y [] (bst own.length σ js) H' s'/\tn i s'.heap/\(∀b∈fp,H' b=none)/\H' D=none/\Vals ys its /\
   s'.heap.get? D=some {cls:=.type "list",data:=.seq its.toArray k}/\W i n ys H') ?_ m0 ⟨0,[],[],0,H2,IB,T.keep 0 _ _ st2 (fun b hb o e=>keep1 b o e),fun b hb=>(f2 b hb).1,I2.hok.fresh szD,.nil,gD1,w0⟩
  rintro n s3 ⟨i,ys,its,k,H3,I3,st3,fr3,hD3,r3,g3,w3⟩
  have I3p:Inv Y [(D,{cls:=.type "list",data:=.seq its.toArray k})] (bst own.length σ js) H3 s3:=I3.pins_of fun p hp=>by
   have e:p=(D,{cls:=.type "list",data:=.seq its.toArray k}):=by simpa using hp
   subst e
   exact⟨g3,hD3,neDC,notFs,fun v z=>by cases z⟩
  have f3:∀b∈fp,FpOk Y [(D,{cls:=.type "list",data:=.seq its.toArray k})] H3 b:=fpB fr3 fun p hp=>by
   have e:p=(D,{cls:=.type "list",data:=.seq its.toArray k}):=by simpa using hp
   rw[e]
  rcases turn i n ys H3 w3 with⟨stop,hz,qn⟩ | ⟨go,hz,N,hN,step⟩
  ·refine thn (T.done Y rfl rfl rfl hc i _ s3 _ H3 (fun _ _=>False) I3p f3 st3 stop) fun r s4 ⟨hr,I4⟩=>?_
   subst hr
   refine hR C _ s4 ?_
   have g4:=(I4.pin (D,{cls:=.type "list",data:=.seq its.toArray k}) (by simp[Y,blkC])).1
   obtain⟨m,hn4,_⟩:=id I4.loc
   have un:Un (frs X.stack) fp H2 H3 s2.heap s4.heap:=I4.base
   have I5:Inv X pins σ H3 s4:=I2.call' I4.os un I4.hok I4.bare fun b hb=>let ⟨_,b1,_,b3,b4,b5⟩:=f2 b hb;⟨b3,b1,b4,b5⟩
   have I6:=I5.track (ys:=ys) (its:=its) (n:=k) hD3 (Nat.le_trans I2.sz szD) locD.1 (fun x d e=>(clD x d e).1) (fun p hp=>(pinD p hp).1) hz r3 g4
   refine⟨D,_,m,rfl,hn4,I6,?_,Nat.le_trans I2.sz szC,locD.2,fun x d e=>(clD x d e).2,fun p hp=>(pinD p hp).2,qn D hD3⟩
   rw[a0o (Ne.symm neDC)]
   exact I4.free
  ·refine thn (T.item Y rfl rfl rfl hc i _ s3 _ H3 (fun _ _=>False) I3p f3 st3 go) fun r s4 ⟨u,hr,h4⟩=>?_
   subst hr
   refine thn h4 fun _ s5 ⟨x,H5,I5,r5,y5,st5,fr5⟩=>?_
   have f5:∀b∈fp,FpOk Y [(D,{cls:=.type "list",data:=.seq its.toArray k})] H5 b:=fun b hb=>⟨fr5 b hb,(f3 b hb).2⟩
   have I5':=I5.pinned f5 (T.obj _ _ st5)
   refine thn (hg s2 H2 C fp B.nd _ s5 _ H5 x u _ I5' r5 (step x H5 y5)) fun _ s6 ⟨σ6,H6,I6,d6,q6⟩=>?_
   refine thn (ht s2 H2 C fp _ s6 σ6 H6 _ I6 q6) fun ok s7 ⟨H7,I7,q7⟩=>?_
   have after:∀ {s8:Shared} {H8:Hp},Inv Y ([(D,{cls:=.type "list",data:=.seq its.toArray k})]++g0f fp s5.heap) σ6 H8 s8 ->
     s8.heap.get? D=some {cls:=.type "list",data:=.seq its.toArray k}/\H8 D=none/\tn (i+1) s8.heap/\(∀b∈fp,H8 b=none)/\Inv Y [] (bst own.length σ js) H8 s8:=fun{s8 H8} I8=>by
    have p8:=I8.pin (D,{cls:=.type "list",data:=.seq its.toArray k}) (by simp[Y,blkC])
    refine⟨p8.1,p8.2.1,T.keep _ _ _ st5 fun b hb o e=>(I8.pin (b,o) (List.mem_append_right _ (List.mem_append_right _ (c0l hb e)))).1,fun b hb=>?_,?_⟩
    ·obtain⟨o,e,_⟩:=T.obj _ _ st5 b hb
     exact(I8.pin (b,o) (List.mem_append_right _ (List.mem_append_right _ (c0l hb e)))).2.1
    ·refine(I8.pins_of (pins':=[]) fun p hp=>absurd hp (by simp[Y,blkC])).weak ?_ fun j v e=>?_
     ·rw[I8.len,h0k]
      show _=(own++capN X.N js).length
      unfold capN
      simp
     ·rcases Nat.lt_or_ge j own.length with z | z
      ·exfalso
       unfold bst at e
       rw[List.getElem?_append_left (by simpa using z),List.getElem?_replicate]at e
       split at e <;> cases e
      ·unfold bst at e
       rw[List.getElem?_append_right (by simpa using z),List.length_replicate,<- d6,List.getElem?_drop]at e
       rw[<- e]
       congr 1
       omega
   cases ok with
   | false =>
    rw[if_neg Bool.false_ne_true]at q7 ⊢
    obtain⟨m',hm,w7⟩:=hN _ _ q7
    obtain⟨a1,a2,a3,a4,a5⟩:=after I7
    exact⟨m',hm,i+1,ys,its,k,H7,a5,a3,a4,a2,r3,a1,w7⟩
   | true =>
    rw[if_pos rfl]at q7 ⊢
    refine thn (he s2 H2 C fp _ s7 σ6 H7 _ I7 q7) fun u8 s8 ⟨v8,H8,I8,r8,n8⟩=>?_
    obtain⟨m',hm,w8⟩:=hN _ _ n8
    obtain⟨a1,a2,a3,a4,a5⟩:=after I8
    have hsz:its.toArray.size<sizeLine:=by rw[List.size_toArray,<- r3.length];exact hz
    refine call_meets F.slot_list_append ⟨_,a1,rfl⟩ F.entry_list_append (F.args_list_append_2 _ _) (PySem.list_append D its.toArray k u8 (by omega)) ⟨a1,?_⟩
    have q9:=PySem.IsL.update a1 (fun xs=>xs.push u8)
    have sb:Heap.SameBut D s8.heap (s8.heap.update D (Obj.mapSeq fun xs=>xs.push u8)):=Heap.SameBut.update ..
    have I9:=a5.young sb a2 szD neDC clB (fun p hp=>absurd hp (by show p∉[]++[];simp))
    have fin:∃k',(s8.heap.update D (Obj.mapSeq fun xs=>xs.push u8)).get? D=some {cls:=.type "list",data:=.seq (its++[u8]).toArray k'}:=⟨_,by
     rw[show(its++[u8]).toArray=its.toArray.push u8 by simp]
     exact q9⟩
    obtain⟨k',fin⟩:=fin
    exact⟨m',hm,i+1,ys++[v8],its++[u8],k',H8,I9,T.keep _ _ _ a3 (fun b hb o e=>(sb.2 b (fpD b hb).1).trans e),a4,a2,r3.append (.cons r8 .nil),fin,w8⟩
 exact codeAny_compStart_list (loop _ rfl) (T.self _ 0 _ _ _ (T.keep 0 _ _ st2 fun b hb o e=>keep1 b o e) (loop _ rfl))
theorem z0u {elt tg iter:Expr}{ifs:List Expr}{scope:Scope}{pos:Pos}(own:List Str)(js:List Nat){wi:TI}{g:TG}{tc:TT}{te:TE}(hc:X.calm=true)(B:BlkC X scope own js)(hi:PI X tg iter wi)
  (hg:∀s H C fp,(own++capN X.N js).Nodup->PG (blkC X scope (own++capN X.N js) s H C fp) tg g) (ht:∀s H C fp,PTs (blkC X scope (own++capN X.N js) s H C fp) ifs tc) (he:∀s H C fp,PE (blkC X scope (own++capN X.N js) s H C fp) elt te)
  (hs:∀x,foldedSetIterable iter X.env x=pure x:=by intro _;rfl):PE X (.ListComp elt [⟨tg,iter,ifs,0⟩] scope pos) (q0g own.length js wi g tc te):=by
 intro pins s σ H Q I h
 have hcl:closureFor scope X.env=pure (d0k scope X.env):=d0h fun x hx hf=>I.ok.has x.1 (B.free x hx hf)
 rw[eval_ListComp]
 refine wpAny_comprehension_free (use:=none) rfl hs hcl B.kind B.names (thn (hi pins s σ H _ I h) fun v s1 h1=>thn h1 fun itv s2 h2=>?_)
 refine k0o (RR:=fun acc C=>compPost (model X.prog X.w) X.A X.xe none (EP X pins σ Q) acc C) hc B hg ht he h2 fun C acc s' hb=>?_
 obtain⟨D,H',m,rfl,hn,I',c1,c2,c3,c4,c5,q⟩:=hb
 exact⟨m,hn,fun h' hs'=>⟨.ref D,H',I'.young hs' c1 c2 c3 c4 c5,rfl,q⟩⟩
theorem z0r {elt tg iter:Expr}{ifs:List Expr}{scope:Scope}{pos pos' spos:Pos}{i:Nat}{x:Str}(own:List Str)(js:List Nat){wi:TI}{g:TG}{tc:TT}{te:TE}(hN:X.N.Nodup)(hi:X.N[i]? = some x)(hx:Loc X.env.scope x)
  (hc:X.calm=true) (B:BlkC X scope own js) (hit:PI X tg iter wi)
  (hg:∀s H C fp,(own++capN X.N js).Nodup->PG (blkC X scope (own++capN X.N js) s H C fp) tg g) (ht:∀s H C fp,PTs (blkC X scope (own++capN X.N js) s H C fp) ifs tc) (he:∀s H C fp,PE (blkC X scope (own++capN X.N js) s H C fp) elt te)
  (hf:X.fn x=true∨X.env.scope.names.lookup x=some .local:=by first | exact .inl rfl | exact .inr rfl | assumption)
  (hw:swapsWith (.ListComp elt [⟨tg,iter,ifs,0⟩] scope pos) (some (.Name x pos')) spos.line X.env=pure true:=by rfl)
  (hs:∀x,foldedSetIterable iter X.env x=pure x:=by intro _;rfl) :
  PS X (.Assign [.Name x pos'] (.ListComp elt [⟨tg,iter,ifs,0⟩] scope pos) spos) (fun D σ H=>q0g own.length js wi g tc te σ H fun v H'=>D.nx (σ.set i (some v)) H'):=by
 intro pins s σ H D I h
 have hcl:closureFor scope X.env=pure (d0k scope X.env):=d0h fun x hx hf=>I.ok.has x.1 (B.free x hx hf)
 rw[exec_Assign_Name_used _ _ _ _ hw]
 refine wpAny_bind (wpAny_standAt (wpAny_bind ?_))
 show wpAny _ X.A (do let _ <- comprehension (.ListComp elt [⟨tg,iter,ifs,0⟩] scope pos) scope X.env _ (newList []) false (eval iter X.env) (some (assign (.Name x pos') X.env))) _ _ s
 refine wpAny_bind (thn (Q:=fun _ s'=>SP X pins D .next s') (wpAny_comprehension_free (use:=some (assign (.Name x pos') X.env)) rfl hs hcl B.kind B.names (thn (hit pins s σ H _ I h) fun v s1 h1=>thn h1 fun itv s2 h2=>?_)) fun _ s' q=>wpAny_pure (wpAny_pure q))
 refine k0o (Q:=fun v H'=>D.nx (σ.set i (some v)) H') (RR:=fun acc C=>compPost (model X.prog X.w) X.A X.xe (some (assign (.Name x pos') X.env)) (fun _ s'=>SP X pins D .next s') acc C) hc B hg ht he h2 fun C acc s' hb=>?_
 obtain⟨l,H',m,rfl,hn,I',c1,c2,c3,c4,c5,q⟩:=hb
 show wpAny _ X.A (assign (.Name x pos') X.env (.ref l)) _ _ _
 refine wpAny_assign_Name (h0m (v:=.ref l) I' hN hi hx rfl (fun s3 I3 ⟨a,sb,ha⟩=>?_) hf)
 have ne:C≠a:=by
  rcases ha with z | z
  ·rw[z];exact c3
  ·exact(c4 x a z).symm
 exact⟨m,hn.sameBut sb ne,fun h' hs'=>⟨_,H',I3.young hs' c1 c2 c3 c4 c5,q⟩⟩
theorem Blk.inC {X0:Cx}{scope0:Scope}{N0:List Str}{s:Shared}{H:Hp}{C:Addr}{fp:List Addr}{scope:Scope}{own:List Str}{js:List Nat}(sc:Scope)(N:List Str)(h:blkB (relS scope0 sc) N scope own js=true:=by decide +kernel)(e1:X0.env.scope=sc:=by rfl)(e2:N0=N:=by rfl):Blk (blkC X0 scope0 N0 s H C fp) scope own js :=
 Blk.of (X:=blkC X0 scope0 N0 s H C fp) (relS scope0 sc) N h (by subst e1;rfl) e2
end
abbrev SM:=StateT SortSt Sem
def gal:Bool->Keyed->Array Keyed->Nat->Nat->Nat->SM (Option Nat):=sortPriv% PySem.Builtin.gallop
def bey (lf:Bool)(k:Keyed)(xs:Array Keyed)(b i:Nat):SM (Option Bool):=do
 let x <- elem' xs (b+i)
 if lf then lt' x k
 else return (<- lt' k x).map (!·)
theorem i1a (lf:Bool)(k:Keyed)(xs:Array Keyed)(b n h:Nat):gal lf k xs b n h=(do
  let mut p:=0
  let mut q:=1
  let mut u:=0
  let mut v:=0
  let some rt <- bey lf k xs b h | return none
  if rt then
   let m:=n - h
   for _ in [0:n] do
    if q>=m then break
    let some c <- bey lf k xs b (h+q) | return none
    if !c then break
    p:=q
    q:=2*q+1
   u:=h+p+1
   v:=h+min q m
  else
   let m:=h+1
   for _ in [0:n] do
    if q>=m then break
    let some c <- bey lf k xs b (h - q) | return none
    if c then break
    p:=q
    q:=2*q+1
   u:=h+1 - min q m
   v:=h - p
  for _ in [0:n] do
   if u>=v then break
   let w:=u+(v - u) / 2
   let some c <- bey lf k xs b w | return none
   if c then u:=w+1 else v:=w
  return some v):=rfl
section
variable {M:Model}{A:Around}{E:Value->Shared->Prop}{s:Shared}{κ:SortKind}{r:Keyed->Int}{P:Keyed->Prop}
structure Cm (M:Model)(A:Around)(E:Value->Shared->Prop)(s:Shared)(κ:SortKind)(r:Keyed->Int)(P:Keyed->Prop):Prop where
 lt:∀x y,P x->P y->∀(st:SortSt) (Q:Option Bool->SortSt->Prop),kindOf st=κ->Q (some (decide (r x<r y))) st->wpS M A E s (lt' x y) Q st
theorem b0s {xs:Array Keyed}{i:Nat}{x:Keyed}{st:SortSt}{Q:Keyed->SortSt->Prop}(hx:xs[i]? = some x)(h:Q x st):wpS M A E s (elem' xs i) Q st:=by
 rw[elem'_eq,hx];exact wpS_pure h
def bT (lf:Bool)(k v:Int):Bool:=if lf then decide (v<k)else !decide (k<v)
theorem f1v (C:Cm M A E s κ r P){lf:Bool}{k x:Keyed}{xs:Array Keyed}{b i:Nat}{st:SortSt}{Q:Option Bool->SortSt->Prop}(hk:kindOf st=κ)(pk:P k)(hx:xs[b+i]? = some x)(px:P x)(h:Q (some (bT lf (r k) (r x))) st):wpS M A E s (bey lf k xs b i) Q st:=by
 unfold bey
 refine wpS_bind (b0s hx ?_)
 cases lf with
 | true=>exact C.lt _ _ px pk _ _ hk h
 | false=>exact wpS_bind (C.lt _ _ pk px _ _ hk (wpS_pure h))
theorem c1s {lf:Bool}{k:Keyed}{xs:Array Keyed}{b n hint:Nat}{st:SortSt}{Q:Option Nat->SortSt->Prop}(T:Nat->Bool)
  (hB:∀i,i<n->∀Q':Option Bool->SortSt->Prop,Q' (some (T i)) st->wpS M A E s (bey lf k xs b i) Q' st)
  (mono:∀i j,i<=j->j<n->T j=true->T i=true) (hh:hint<n)
  (h:∀m,m<=n->(∀i,i<m->T i=true)->(∀i,m<=i->i<n->T i=false)->Q (some m) st):wpS M A E s (gal lf k xs b n hint) Q st:=by
 have mono':∀i j,i<=j->j<n->T i=false->T j=false:=fun i j a c e=>by
  cases q:T j with
  | false=>rfl
  | true=>rw[mono i j a c q]at e;cases e
 have last:∀(u v:Nat),u<=v->v<=n->(∀i,i<u->T i=true)->(∀i,v<=i->i<n->T i=false) ->
   ∀f:(Option (Option Nat)×Nat×Nat)->SM (Option Nat),(∀m,f (none,m,m)=pure (some m)) ->
   wpS M A E s (forIn [0:n] ((none:Option (Option Nat)),u,v) (fun _ c=>if c.2.1>=c.2.2 then pure (ForInStep.done (none,c.2.1,c.2.2))else do
    let some z <- bey lf k xs b (c.2.1+(c.2.2 - c.2.1) / 2) | pure (ForInStep.done (some none,c.2.1,c.2.2))
    if z then pure (ForInStep.yield (none,c.2.1+(c.2.2 - c.2.1) / 2+1,c.2.2))else pure (ForInStep.yield (none,c.2.1,c.2.1+(c.2.2 - c.2.1) / 2)))>>=f) Q st:=by
  intro u v huv hv h1 h2 f hf
  refine wpS_bind (wpS_mono (wpS_forRange (I:=fun x c st'=>st'=st/\∃u v,c=(none,u,v)/\u<=v/\v<=n/\v - u<=n - x/\(∀i,i<u->T i=true)/\(∀i,v<=i->i<n->T i=false))
   (Q:=fun c st'=>st'=st/\∃m,c=(none,m,m)/\m<=n/\(∀i,i<m->T i=true)/\(∀i,m<=i->i<n->T i=false)) ?_ ?_ ⟨rfl,u,v,rfl,huv,hv,by omega,h1,h2⟩) ?_)
  ·rintro x c st' _ hx ⟨rfl,u,v,rfl,a1,a2,a3,a4,a5⟩
   dsimp only
   by_cases g:u>=v
   ·rw[if_pos g]
    have:u=v:=by omega
    subst this
    exact wpS_pure ⟨rfl,u,rfl,a2,a4,a5⟩
   ·rw[if_neg g]
    refine wpS_bind (hB _ (by omega) _ ?_)
    dsimp only
    cases z:T (u+(v - u) / 2)with
    | true =>
     rw[if_pos rfl]
     exact wpS_pure ⟨rfl,_,_,rfl,by omega,by omega,by omega,fun i hi=>mono i _ (by omega) (by omega) z,a5⟩
    | false =>
     rw[if_neg (by simp)]
     exact wpS_pure ⟨rfl,_,_,rfl,by omega,by omega,by omega,a4,fun i hi hn=>mono' _ i hi hn z⟩
  ·rintro c st' ⟨rfl,u,v,rfl,a1,a2,a3,a4,a5⟩
   have:u=v:=by omega
   subst this
   exact⟨rfl,u,rfl,a2,a4,a5⟩
  ·rintro c st' ⟨rfl,m,rfl,a2,a4,a5⟩
   rw[hf]
   exact wpS_pure (h m a2 a4 a5)
 rw[i1a]
 dsimp only
 refine wpS_bind (hB _ hh _ ?_)
 dsimp only
 cases z:T hint with
 | true =>
  rw[if_pos rfl]
  refine wpS_bind (wpS_mono (wpS_forRange (I:=fun x c st'=>st'=st/\∃p q,c=(none,p,q)/\p<q/\p+hint<n/\x+1<=q/\T (hint+p)=true)
   (Q:=fun c st'=>st'=st/\∃p q,c=(none,p,q)/\p<q/\p+hint<n/\T (hint+p)=true/\(n - hint<=q∨T (hint+q)=false)) ?_ ?_ ⟨rfl,0,1,rfl,by omega,by omega,by omega,z⟩) ?_)
  ·rintro x c st' _ hx ⟨rfl,p,q,rfl,a1,a2,a3,a4⟩
   dsimp only
   by_cases g:q>=n - hint
   ·rw[if_pos g];exact wpS_pure ⟨rfl,p,q,rfl,a1,a2,a4,.inl g⟩
   ·rw[if_neg g]
    refine wpS_bind (hB _ (by omega) _ ?_)
    dsimp only
    cases y:T (hint+q)with
    | true=>rw[if_neg (by simp)];exact wpS_pure ⟨rfl,q,2*q+1,rfl,by omega,by omega,by omega,y⟩
    | false=>rw[if_pos (by simp)];exact wpS_pure ⟨rfl,p,q,rfl,a1,a2,a4,.inr y⟩
  ·rintro c st' ⟨rfl,p,q,rfl,a1,a2,a3,a4⟩
   exact⟨rfl,p,q,rfl,a1,a2,a4,.inl (by omega)⟩
  ·rintro c st' ⟨rfl,p,q,rfl,a1,a2,a4,a5⟩
   dsimp only
   refine last _ _ (by omega) (by omega) (fun i hi=>mono i _ (by omega) (by omega) a4) (fun i hi hn=>?_) _ fun m=>rfl
   rcases a5 with a5 | a5
   ·omega
   ·by_cases g:n - hint<=q
    ·omega
    ·exact mono' _ i (by omega) hn a5
 | false =>
  rw[if_neg (by simp)]
  refine wpS_bind (wpS_mono (wpS_forRange (I:=fun x c st'=>st'=st/\∃p q,c=(none,p,q)/\p<q/\p<=hint/\x+1<=q/\T (hint - p)=false)
   (Q:=fun c st'=>st'=st/\∃p q,c=(none,p,q)/\p<q/\p<=hint/\T (hint - p)=false/\(hint+1<=q∨(q<=hint/\T (hint - q)=true))) ?_ ?_ ⟨rfl,0,1,rfl,by omega,by omega,by omega,z⟩) ?_)
  ·rintro x c st' _ hx ⟨rfl,p,q,rfl,a1,a2,a3,a4⟩
   dsimp only
   by_cases g:q>=hint+1
   ·rw[if_pos g];exact wpS_pure ⟨rfl,p,q,rfl,a1,a2,a4,.inl g⟩
   ·rw[if_neg g]
    refine wpS_bind (hB _ (by omega) _ ?_)
    dsimp only
    cases y:T (hint - q)with
    | true=>rw[if_pos rfl];exact wpS_pure ⟨rfl,p,q,rfl,a1,a2,a4,.inr ⟨by omega,y⟩⟩
    | false=>rw[if_neg (by simp)];exact wpS_pure ⟨rfl,q,2*q+1,rfl,by omega,by omega,by omega,y⟩
  ·rintro c st' ⟨rfl,p,q,rfl,a1,a2,a3,a4⟩
   exact⟨rfl,p,q,rfl,a1,a2,a4,.inl (by omega)⟩
  ·rintro c st' ⟨rfl,p,q,rfl,a1,a2,a4,a5⟩
   dsimp only
   refine last _ _ (by omega) (by omega) (fun i hi=>?_) (fun i hi hn=>mono' _ i (by omega) hn a4) _ fun m=>rfl
   rcases a5 with a5 | ⟨a6,a5⟩
   ·omega
   ·exact mono i (hint - q) (by omega) (by omega) a5
end
def mLo:Array Keyed->Array Keyed->SM (Array Keyed):=sortPriv% PySem.Builtin.mergeLo
def setG:Nat->SM Unit:=sortPriv% PySem.Builtin.setMinGallop
abbrev stG (st:SortSt)(g:Nat):SortSt:=SortSt.mk' (kindOf st) (arrOf st) (pendingOf st) g (failedOf st)
def dn (a b o:Array Keyed)(i j:Nat):Array Keyed:=o++a.extract i a.size++b.extract j b.size
def dl (a b o:Array Keyed)(i j:Nat):Array Keyed:=o++b.extract j b.size++a.extract i a.size
theorem m0k (g:Nat):setG g=modify fun st=>stG st g:=rfl
def Srt (r:Keyed->Int)(l:List Keyed):Prop:=l.Pairwise fun x y=>r x<=r y
structure Mg (r:Keyed->Int)(all out A B:List Keyed):Prop where
 pm:(out++A++B).Perm all
 so:Srt r out
 sa:Srt r A
 sb:Srt r B
 oa:∀x∈out,∀y∈A,r x<=r y
 ob:∀x∈out,∀y∈B,r x<=r y
section
variable {r:Keyed->Int}{all out A B X:List Keyed}
theorem Mg.takeA (m:Mg r all out (X++A) B)(h:∀x∈X,∀y∈B,r x<=r y):Mg r all (out++X) A B:=by
 have s:=List.pairwise_append.mp m.sa
 refine⟨by have:=m.pm;simpa [List.append_assoc] using this,List.pairwise_append.mpr ⟨m.so,s.1,fun x hx y hy=>m.oa x hx y (List.mem_append_left _ hy)⟩,s.2.1,m.sb,fun x hx y hy=>?_,fun x hx y hy=>?_⟩
 ·rcases List.mem_append.mp hx with q | q
  ·exact m.oa x q y (List.mem_append_right _ hy)
  ·exact s.2.2 x q y hy
 ·rcases List.mem_append.mp hx with q | q
  ·exact m.ob x q y hy
  ·exact h x q y hy
theorem Mg.takeB (m:Mg r all out A (X++B))(h:∀x∈X,∀y∈A,r x<=r y):Mg r all (out++X) A B:=by
 have s:=List.pairwise_append.mp m.sb
 refine⟨?_,List.pairwise_append.mpr ⟨m.so,s.1,fun x hx y hy=>m.ob x hx y (List.mem_append_left _ hy)⟩,m.sa,s.2.1,fun x hx y hy=>?_,fun x hx y hy=>?_⟩
 ·refine List.Perm.trans ?_ m.pm
  rw[List.append_assoc,List.append_assoc,List.append_assoc]
  refine List.Perm.append_left out ?_
  rw[<- List.append_assoc,<- List.append_assoc]
  exact List.Perm.append_right B List.perm_append_comm
 ·rcases List.mem_append.mp hx with q | q
  ·exact m.oa x q y hy
  ·exact h x q y hy
 ·rcases List.mem_append.mp hx with q | q
  ·exact m.ob x q y (List.mem_append_right _ hy)
  ·exact s.2.2 x q y hy
def Res (r:Keyed->Int)(all:List Keyed)(xs:Array Keyed):Prop:=xs.toList.Perm all/\Srt r xs.toList
end
theorem j0e (a:Array Keyed)(i:Nat):(a.extract i a.size).toList=a.toList.drop i:=by
 rw[Array.toList_extract,List.extract_eq_take_drop]
 exact List.take_of_length_le (by simp)
theorem x0w {a:Array Keyed}{i:Nat}(h:i<a.size):a.toList.drop i=a[i]::a.toList.drop (i+1):=by
 rw[List.drop_eq_getElem_cons (by simpa using h)];simp
theorem t0d {a:Array Keyed}{i:Nat}{x:Keyed}(h:x∈a.toList.drop i):∃k,i<=k/\∃(q:k<a.size),a[k]=x:=by
 obtain⟨n,hn,e⟩:=List.getElem_of_mem h
 rw[List.getElem_drop]at e
 rw[List.length_drop]at hn
 exact⟨i+n,by omega,by simp at hn;omega,by simpa using e⟩
theorem l0k {r:Keyed->Int}{a:Array Keyed}(h:Srt r a.toList){i j:Nat}(ij:i<=j)(hj:j<a.size):r (a[i]'(by omega))<=r a[j]:=by
 rcases Nat.lt_or_ge i j with q | q
 ·have:=List.pairwise_iff_getElem.mp h i j (by simp;omega) (by simpa using hj) q
  simpa using this
 ·have:i=j:=by omega
  subst this;exact Int.le_refl _
theorem p0m {a:Array Keyed}{i k:Nat}:a.toList.drop i=(a.extract i (i+k)).toList++a.toList.drop (i+k):=by
 rw[Array.toList_extract,List.extract_eq_take_drop,Nat.add_sub_cancel_left,<- List.drop_drop,List.take_append_drop]
theorem x0q {a:Array Keyed}{i k:Nat}{x:Keyed}(h:x∈(a.extract i (i+k)).toList):∃m,i<=m/\m<i+k/\∃(q:m<a.size),a[m]=x:=by
 rw[Array.toList_extract,List.extract_eq_take_drop,Nat.add_sub_cancel_left]at h
 obtain⟨n,hn,e⟩:=List.getElem_of_mem h
 rw[List.length_take,List.length_drop]at hn
 rw[List.getElem_take,List.getElem_drop]at e
 exact⟨i+n,by omega,by omega,by simp at hn;omega,by simpa using e⟩
section
variable {M:Model}{A:Around}{E:Value->Shared->Prop}{s:Shared}{κ:SortKind}{r:Keyed->Int}{P:Keyed->Prop}
theorem l0d (C:Cm M A E s κ r P){lf:Bool}{k:Keyed}{xs:Array Keyed}{b n hint:Nat}{st:SortSt}{Q:Option Nat->SortSt->Prop}(hk:kindOf st=κ)(pk:P k)(hP:∀x∈xs.toList,P x)(hn:b+n<=xs.size)
  (hs:∀i j (ij:i<=j) (hj:j<n),r (xs[b+i]'(by omega))<=r (xs[b+j]'(by omega))) (hh:hint<n)
  (h:∀m,m<=n->(∀i (q:i<m) (z:b+i<xs.size),bT lf (r k) (r xs[b+i])=true)->(∀i,m<=i->i<n->∀z:b+i<xs.size,bT lf (r k) (r xs[b+i])=false)->Q (some m) st):wpS M A E s (gal lf k xs b n hint) Q st:=by
 have ev:∀i,i<n->∃z:b+i<xs.size,(match xs[b+i]? with | some x=>bT lf (r k) (r x) | none=>false)=bT lf (r k) (r xs[b+i]):=fun i hi=>by
  have z:b+i<xs.size:=by omega
  exact⟨z,by rw[Array.getElem?_eq_getElem z]⟩
 refine c1s (fun i=>match xs[b+i]? with | some x=>bT lf (r k) (r x) | none=>false) (fun i hi Q' q=>?_) (fun i j ij hj q=>?_) hh fun m hm h1 h2=>h m hm (fun i hi z=>?_) fun i hi hn z=>?_
 ·obtain⟨z,e⟩:=ev i hi
  rw[e]at q
  exact f1v C hk pk (Array.getElem?_eq_getElem z) (hP _ (by simp)) q
 ·obtain⟨z,e⟩:=ev i (by omega)
  obtain⟨z',e'⟩:=ev j hj
  rw[e']at q;rw[e]
  have:=hs i j ij hj
  unfold bT at q ⊢
  cases lf <;> simp at q ⊢ <;> omega
 ·obtain⟨z',e⟩:=ev i (by omega)
  rw[<- e];exact h1 i hi
 ·obtain⟨z',e⟩:=ev i hn
  rw[<- e];exact h2 i hi hn
end
abbrev T7:=Option (Array Keyed)×Array Keyed×Nat×Nat×Nat×Nat×Nat
abbrev T6:=Option (Array Keyed)×Array Keyed×Nat×Nat×Nat×Nat
abbrev T5:=Option (Array Keyed)×Array Keyed×Nat×Nat×Nat
def loC (a b o:Array Keyed)(i j g c d:Nat):SM (ForInStep T7):=do
 let x <- elem' a i
 if i+1+1==a.size then pure (.done (some (dl a b (o.push x) (i+1) j),o.push x,i+1,j,g,c,d))
 else if c<7&&d<7 then pure (.done (none,o.push x,i+1,j,g,c,d))
 else pure (.yield (none,o.push x,i+1,j,g,c,d))
def loB (a b o:Array Keyed)(i j g c d:Nat):SM (ForInStep T7):=do
 let x <- elem' b j
 if j+1==b.size then pure (.done (some (dn a b (o.push x) i (j+1)),o.push x,i,j+1,g,c,d))
 else
  let y <- elem' a i
  let some k <- gal true y b (j+1) (b.size - (j+1)) 0 | pure (.done (some (dn a b (o.push x) i (j+1)),o.push x,i,j+1,g,c,d))
  if k > 0 then
   if j+1+k==b.size then pure (.done (some (dn a b (o.push x++b.extract (j+1) (j+1+k)) i (j+1+k)),o.push x++b.extract (j+1) (j+1+k),i,j+1+k,g,c,k))
   else loC a b (o.push x++b.extract (j+1) (j+1+k)) i (j+1+k) g c k
  else loC a b (o.push x) i (j+1) g c k
def loA (a b o:Array Keyed)(i j g c d:Nat):SM (ForInStep T7):=do
 setG g
 let y <- elem' b j
 let some k <- gal false y a i (a.size - i) 0 | pure (.done (some (dn a b o i j),o,i,j,g,c,d))
 if k > 0 then
  if i+k+1==a.size then pure (.done (some (dl a b (o++a.extract i (i+k)) (i+k) j),o++a.extract i (i+k),i+k,j,g,k,d))
  else if i+k==a.size then pure (.done (some (dn a b (o++a.extract i (i+k)) (i+k) j),o++a.extract i (i+k),i+k,j,g,k,d))
  else loB a b (o++a.extract i (i+k)) (i+k) j g k d
 else loB a b o i j g k d
def lo2 (a b:Array Keyed)(q:T7):SM (ForInStep T7) :=
 if q.2.2.2.2.1 > 1 then loA a b q.2.1 q.2.2.1 q.2.2.2.1 (q.2.2.2.2.1 - 1) q.2.2.2.2.2.1 q.2.2.2.2.2.2 else loA a b q.2.1 q.2.2.1 q.2.2.2.1 q.2.2.2.2.1 q.2.2.2.2.2.1 q.2.2.2.2.2.2
def lo1 (a b:Array Keyed)(g:Nat)(q:T6):SM (ForInStep T6):=do
 let o:=q.2.1
 let i:=q.2.2.1
 let j:=q.2.2.2.1
 let c:=q.2.2.2.2.1
 let d:=q.2.2.2.2.2
 let x <- elem' b j
 let y <- elem' a i
 let some z <- lt' x y | pure (.done (some (dn a b o i j),o,i,j,c,d))
 if z then
  let x <- elem' b j
  if j+1==b.size then pure (.done (some (dn a b (o.push x) i (j+1)),o.push x,i,j+1,0,d+1))
  else if d+1>=g then pure (.done (none,o.push x,i,j+1,0,d+1))
  else pure (.yield (none,o.push x,i,j+1,0,d+1))
 else
  let y <- elem' a i
  if i+1+1==a.size then pure (.done (some (dl a b (o.push y) (i+1) j),o.push y,i+1,j,c+1,0))
  else if c+1>=g then pure (.done (none,o.push y,i+1,j,c+1,0))
  else pure (.yield (none,o.push y,i+1,j,c+1,0))
def loO (a b:Array Keyed)(q:T5):SM (ForInStep T5):=do
 let u <- forIn [0:a.size+b.size] ((none,q.2.1,q.2.2.1,q.2.2.2.1,0,0):T6) fun _ z=>lo1 a b q.2.2.2.2 z
 match u.1 with
 | some x=>pure (.done (some x,u.2.1,u.2.2.1,u.2.2.2.1,q.2.2.2.2))
 | none =>
  rule "list.sort.gallop"
  let v <- forIn [0:a.size+b.size] ((none,u.2.1,u.2.2.1,u.2.2.2.1,q.2.2.2.2+1,u.2.2.2.2.1,u.2.2.2.2.2):T7) fun _ z=>lo2 a b z
  match v.1 with
  | some x=>pure (.done (some x,v.2.1,v.2.2.1,v.2.2.2.1,v.2.2.2.2.1))
  | none=>do
   setG (v.2.2.2.2.1+1)
   pure (.yield (none,v.2.1,v.2.2.1,v.2.2.2.1,v.2.2.2.2.1+1))
theorem h1e (a b:Array Keyed):mLo a b=(do
  rule "list.sort.merge-lo"
  let t:=a.size+b.size
  let mut o:Array Keyed:=#[<- elem' b 0]
  let mut i:=0
  let mut j:=1
  if j==b.size then return dn a b o i j
  if i+1==a.size then return dl a b o i j
  let mut g:=gallopOf (<- get)
  for _ in [0:t] do
   let mut c:=0
   let mut d:=0
   for _ in [0:t] do
    let some z <- lt' (<- elem' b j) (<- elem' a i) | return dn a b o i j
    if z then
     o:=o.push (<- elem' b j);j:=j+1;d:=d+1;c:=0
     if j==b.size then return dn a b o i j
     if d>=g then break
    else
     o:=o.push (<- elem' a i);i:=i+1;c:=c+1;d:=0
     if i+1==a.size then return dl a b o i j
     if c>=g then break
   rule "list.sort.gallop"
   g:=g+1
   for _ in [0:t] do
    if g > 1 then g:=g - 1
    setG g
    let some k <- gal false (<- elem' b j) a i (a.size - i) 0 | return dn a b o i j
    c:=k
    if k > 0 then
     o:=o++a.extract i (i+k);i:=i+k
     if i+1==a.size then return dl a b o i j
     if i==a.size then return dn a b o i j
    o:=o.push (<- elem' b j);j:=j+1
    if j==b.size then return dn a b o i j
    let some k <- gal true (<- elem' a i) b j (b.size - j) 0 | return dn a b o i j
    d:=k
    if k > 0 then
     o:=o++b.extract j (j+k);j:=j+k
     if j==b.size then return dn a b o i j
    o:=o.push (<- elem' a i);i:=i+1
    if i+1==a.size then return dl a b o i j
    if c<7&&d<7 then break
   g:=g+1
   setG g
  (unsupported "internal:list.sort.merge-bound" : SM (Array Keyed))):=rfl
theorem h1d (a b:Array Keyed):mLo a b=(do
  rule "list.sort.merge-lo"
  let x <- elem' b 0
  if 1==b.size then return dn a b #[x] 0 1
  if 0+1==a.size then return dl a b #[x] 0 1
  let u <- get
  let v <- forIn [0:a.size+b.size] ((none,#[x],0,1,gallopOf u):T5) fun _ z=>loO a b z
  match v.1 with
  | some x=>pure x
  | none=>(unsupported "internal:list.sort.merge-bound" : SM (Array Keyed))):=by
 refine(h1e a b).trans ?_
 dsimp only
 refine congrArg (bind _) (funext fun _=>?_)
 refine congrArg (bind _) (funext fun x=>?_)
 refine ite_congr rfl (fun _=>rfl) fun _=>?_
 refine ite_congr rfl (fun _=>rfl) fun _=>?_
 refine congrArg (bind _) (funext fun u=>?_)
 refine congr (congrArg bind (congrArg (forIn _ _) (funext fun _=>funext fun q=>?_))) (funext fun v=>?_)
 ·unfold loO
  refine congr (congrArg bind (congrArg (forIn _ _) (funext fun _=>funext fun q2=>?_))) (funext fun v=>?_)
  ·unfold lo1
   rfl
  ·rcases v with⟨v,v2⟩
   cases v with
   | some v=>rfl
   | none =>
    dsimp only
    refine congrArg (bind _) (funext fun _=>?_)
    refine congr (congrArg bind (congrArg (forIn _ _) (funext fun _=>funext fun q3=>?_))) (funext fun v=>?_)
    ·unfold lo2 loA loB loC
     rfl
    ·rcases v with⟨v,v2⟩
     cases v with
     | some v=>rfl
     | none=>rfl
 ·rcases v with⟨v,v2⟩
  cases v with
  | some v=>rfl
  | none=>rfl
section
variable {M:Model}{A:Around}{E:Value->Shared->Prop}{s:Shared}{κ:SortKind}{r:Keyed->Int}{P:Keyed->Prop}{a b:Array Keyed}{all:List Keyed}
structure Two (r:Keyed->Int)(P:Keyed->Prop)(a b:Array Keyed):Prop where
 pa:∀x∈a.toList,P x
 pb:∀x∈b.toList,P x
 sa:Srt r a.toList
 sb:Srt r b.toList
 la:∀(h:a.size - 1<a.size),∀x∈b.toList,r x<r a[a.size - 1]
 fb:∀(h:0<b.size),∀x∈a.toList,r b[0]<r x
abbrev JL (r:Keyed->Int)(all:List Keyed)(a b o:Array Keyed)(i j:Nat):Prop:=Mg r all o.toList (a.toList.drop i) (b.toList.drop j)
theorem m0x (sa:Srt r a.toList){i:Nat}(h:i<a.size){z:Int}(hz:z<=r a[i]):∀y∈a.toList.drop i,z<=r y:=fun y hy=>by
 obtain⟨k,h1,h2,rfl⟩:=t0d hy
 exact Int.le_trans hz (l0k sa h1 h2)
theorem JL.pushB (t:Two r P a b){o:Array Keyed}{i j:Nat}(m:JL r all a b o i j)(hi:i<a.size)(hj:j<b.size)(h:r b[j]<=r a[i]):JL r all a b (o.push b[j]) i (j+1):=by
 unfold JL at m ⊢
 rw[x0w hj]at m
 have:=m.takeB (X:=[b[j]]) (B:=b.toList.drop (j+1)) fun x hx y hy=>by
  rw[List.mem_singleton]at hx;subst hx
  exact m0x t.sa hi h y hy
 simpa using this
theorem JL.pushA (t:Two r P a b){o:Array Keyed}{i j:Nat}(m:JL r all a b o i j)(hi:i<a.size)(hj:j<b.size)(h:r a[i]<=r b[j]):JL r all a b (o.push a[i]) (i+1) j:=by
 unfold JL at m ⊢
 rw[x0w hi]at m
 have:=m.takeA (X:=[a[i]]) (A:=a.toList.drop (i+1)) fun x hx y hy=>by
  rw[List.mem_singleton]at hx;subst hx
  exact m0x t.sb hj h y hy
 simpa using this
theorem JL.appA (t:Two r P a b){o:Array Keyed}{i j k:Nat}(m:JL r all a b o i j)(hj:j<b.size)(h:∀n,i<=n->n<i+k->∀z:n<a.size,r a[n]<=r b[j]):JL r all a b (o++a.extract i (i+k)) (i+k) j:=by
 unfold JL at m ⊢
 rw[p0m (k:=k)]at m
 have:=m.takeA fun x hx y hy=>by
  obtain⟨n,h1,h2,h3,rfl⟩:=x0q hx
  exact m0x t.sb hj (h n h1 h2 h3) y hy
 rw[Array.toList_append];exact this
theorem JL.appB (t:Two r P a b){o:Array Keyed}{i j k:Nat}(m:JL r all a b o i j)(hi:i<a.size)(h:∀n,j<=n->n<j+k->∀z:n<b.size,r b[n]<=r a[i]):JL r all a b (o++b.extract j (j+k)) i (j+k):=by
 unfold JL at m ⊢
 rw[p0m (a:=b) (k:=k)]at m
 have:=m.takeB fun x hx y hy=>by
  obtain⟨n,h1,h2,h3,rfl⟩:=x0q hx
  exact m0x t.sa hi (h n h1 h2 h3) y hy
 rw[Array.toList_append];exact this
theorem JL.dn {o:Array Keyed}{i j:Nat}(m:JL r all a b o i j)(hj:j=b.size):Res r all (dn a b o i j):=by
 have e:(L2.dn a b o i j).toList=o.toList++a.toList.drop i++b.toList.drop j:=by unfold L2.dn;rw[Array.toList_append,Array.toList_append,j0e,j0e]
 unfold Res
 rw[e]
 refine⟨m.pm,?_⟩
 have hn:b.toList.drop j=[]:=by subst hj;simp
 rw[hn,List.append_nil]
 exact List.pairwise_append.mpr ⟨m.so,m.sa,m.oa⟩
theorem JL.dl (t:Two r P a b){o:Array Keyed}{i j:Nat}(m:JL r all a b o i j)(hi:i+1=a.size):Res r all (dl a b o i j):=by
 have e:(L2.dl a b o i j).toList=o.toList++b.toList.drop j++a.toList.drop i:=by unfold L2.dl;rw[Array.toList_append,Array.toList_append,j0e,j0e]
 unfold Res
 rw[e]
 refine⟨List.Perm.trans ?_ m.pm,?_⟩
 ·rw[List.append_assoc,List.append_assoc]
  exact List.Perm.append_left _ List.perm_append_comm
 ·refine List.pairwise_append.mpr ⟨List.pairwise_append.mpr ⟨m.so,m.sb,m.ob⟩,m.sa,fun x hx y hy=>?_⟩
  rcases List.mem_append.mp hx with q | q
  ·exact m.oa x q y hy
  ·obtain⟨n,h1,h2,rfl⟩:=t0d hy
   have:n=a.size - 1:=by omega
   subst this
   exact Int.le_of_lt (t.la h2 x (List.mem_of_mem_drop q))
def IV (r:Keyed->Int)(all:List Keyed)(a b:Array Keyed)(n:Nat)(z:Option (Array Keyed))(o:Array Keyed)(i j:Nat):Prop :=
 (∃x,z=some x/\Res r all x)∨(z=none/\JL r all a b o i j/\i+1<a.size/\j<b.size/\n<=i+j)
theorem c0z {st:SortSt}{g:Nat}(hk:kindOf st=κ):kindOf (stG st g)=κ:=hk
theorem f1q (C:Cm M A E s κ r P)(t:Two r P a b){st:SortSt}(hk:kindOf st=κ){o:Array Keyed}{i j c d g n:Nat}(m:JL r all a b o i j)(hi:i+1<a.size)(hj:j<b.size)(hn:n<=i+j){Q:ForInStep T6->SortSt->Prop}
  (hd:∀z o i j c d,IV r all a b (n+1) z o i j->Q (.done (z,o,i,j,c,d)) st) (hy:∀o i j c d,IV r all a b (n+1) none o i j->Q (.yield (none,o,i,j,c,d)) st):wpS M A E s (lo1 a b g (none,o,i,j,c,d)) Q st:=by
 unfold lo1
 dsimp only
 have hi':i<a.size:=by omega
 refine wpS_bind (b0s (Array.getElem?_eq_getElem hj) (wpS_bind (b0s (Array.getElem?_eq_getElem hi') (wpS_bind (C.lt _ _ (t.pb _ (by simp)) (t.pa _ (by simp)) _ _ hk ?_)))))
 dsimp only
 by_cases z:r b[j]<r a[i]
 ·rw[decide_eq_true z,if_pos rfl]
  refine wpS_bind (b0s (Array.getElem?_eq_getElem hj) ?_)
  have m':=m.pushB t hi' hj (Int.le_of_lt z)
  by_cases e:j+1=b.size
  ·rw[if_pos (by simpa using e)]
   exact wpS_pure (hd _ _ _ _ _ _ (.inl ⟨_,rfl,m'.dn e⟩))
  ·rw[if_neg (by simpa using e)]
   have iv:IV r all a b (n+1) none (o.push b[j]) i (j+1):=.inr ⟨rfl,m',hi,by omega,by omega⟩
   split
   ·exact wpS_pure (hd _ _ _ _ _ _ iv)
   ·exact wpS_pure (hy _ _ _ _ _ iv)
 ·rw[decide_eq_false z,if_neg (by simp)]
  refine wpS_bind (b0s (Array.getElem?_eq_getElem hi') ?_)
  have m':=m.pushA t hi' hj (by omega)
  by_cases e:i+1+1=a.size
  ·rw[if_pos (by simpa using e)]
   exact wpS_pure (hd _ _ _ _ _ _ (.inl ⟨_,rfl,m'.dl t e⟩))
  ·rw[if_neg (by simpa using e)]
   have iv:IV r all a b (n+1) none (o.push a[i]) (i+1) j:=.inr ⟨rfl,m',by omega,hj,by omega⟩
   split
   ·exact wpS_pure (hd _ _ _ _ _ _ iv)
   ·exact wpS_pure (hy _ _ _ _ _ iv)
theorem b1d (C:Cm M A E s κ r P)(t:Two r P a b){st:SortSt}{o:Array Keyed}{i j c d g n:Nat}(m:JL r all a b o i j)(hi:i+1<a.size)(hj:j<b.size)(hn:n<=i+j)(hl:r (a[i]'(by omega))<=r b[j]){Q:ForInStep T7->SortSt->Prop}
  (hd:∀z o i j c d,IV r all a b n z o i j->Q (.done (z,o,i,j,g,c,d)) st) (hy:∀o i j c d,IV r all a b n none o i j->Q (.yield (none,o,i,j,g,c,d)) st):wpS M A E s (loC a b o i j g c d) Q st:=by
 unfold loC
 have hi':i<a.size:=by omega
 refine wpS_bind (b0s (Array.getElem?_eq_getElem hi') ?_)
 have m':=m.pushA t hi' hj hl
 by_cases e:i+1+1=a.size
 ·rw[if_pos (by simpa using e)]
  exact wpS_pure (hd _ _ _ _ _ _ (.inl ⟨_,rfl,m'.dl t e⟩))
 ·rw[if_neg (by simpa using e)]
  have iv:IV r all a b n none (o.push a[i]) (i+1) j:=.inr ⟨rfl,m',by omega,hj,by omega⟩
  split
  ·exact wpS_pure (hd _ _ _ _ _ _ iv)
  ·exact wpS_pure (hy _ _ _ _ _ iv)
theorem b1e (C:Cm M A E s κ r P)(t:Two r P a b){st:SortSt}(hk:kindOf st=κ){o:Array Keyed}{i j c d g n:Nat}(m:JL r all a b o i j)(hi:i+1<a.size)(hj:j<b.size)(hn:n<=i+j)(hl:r b[j]<=r (a[i]'(by omega))){Q:ForInStep T7->SortSt->Prop}
  (hd:∀z o i j c d,IV r all a b n z o i j->Q (.done (z,o,i,j,g,c,d)) st) (hy:∀o i j c d,IV r all a b n none o i j->Q (.yield (none,o,i,j,g,c,d)) st):wpS M A E s (loB a b o i j g c d) Q st:=by
 unfold loB
 have hi':i<a.size:=by omega
 refine wpS_bind (b0s (Array.getElem?_eq_getElem hj) ?_)
 have m':=m.pushB t hi' hj hl
 by_cases e:j+1=b.size
 ·rw[if_pos (by simpa using e)]
  exact wpS_pure (hd _ _ _ _ _ _ (.inl ⟨_,rfl,m'.dn e⟩))
 ·rw[if_neg (by simpa using e)]
  refine wpS_bind (b0s (Array.getElem?_eq_getElem hi') (wpS_bind (l0d C hk (t.pa _ (by simp)) t.pb (by omega) (fun x y xy hy=>l0k t.sb (by omega) (by omega)) (by omega) fun k hk1 hk2 hk3=>?_)))
  dsimp only
  have lo:∀n,j+1<=n->n<j+1+k->∀z:n<b.size,r b[n]<=r a[i]:=fun n h1 h2 z=>by
   obtain⟨x,rfl⟩:∃x,n=j+1+x:=⟨n - (j+1),by omega⟩
   have:=hk2 x (by omega) z
   unfold bT at this;simp at this;omega
  have hi2:∀z:j+1+k<b.size,r a[i]<=r b[j+1+k]:=fun z=>by
   have:=hk3 k (Nat.le_refl _) (by omega) z
   unfold bT at this;simp at this;omega
  by_cases k0:k > 0
  ·rw[if_pos k0]
   have m2:=m'.appB t hi' lo
   by_cases e2:j+1+k=b.size
   ·rw[if_pos (by simpa using e2)]
    exact wpS_pure (hd _ _ _ _ _ _ (.inl ⟨_,rfl,m2.dn e2⟩))
   ·rw[if_neg (by simpa using e2)]
    exact b1d C t m2 hi (by omega) (by omega) (hi2 _) hd hy
  ·rw[if_neg k0]
   have:k=0:=by omega
   subst this
   exact b1d C t m' hi (by omega) (by omega) (hi2 (by omega)) hd hy
theorem b1f (C:Cm M A E s κ r P)(t:Two r P a b){st:SortSt}(hk:kindOf st=κ){o:Array Keyed}{i j c d g n:Nat}(m:JL r all a b o i j)(hi:i+1<a.size)(hj:j<b.size)(hn:n<=i+j){Q:ForInStep T7->SortSt->Prop}
  (hd:∀z o i j c d,IV r all a b n z o i j->Q (.done (z,o,i,j,g,c,d)) (stG st g)) (hy:∀o i j c d,IV r all a b n none o i j->Q (.yield (none,o,i,j,g,c,d)) (stG st g)):wpS M A E s (loA a b o i j g c d) Q st:=by
 unfold loA
 have hi':i<a.size:=by omega
 rw[m0k]
 refine wpS_bind (wpS_modify (wpS_bind (b0s (Array.getElem?_eq_getElem hj) (wpS_bind (l0d C (c0z hk) (t.pb _ (by simp)) t.pa (by omega) (fun x y xy hy=>l0k t.sa (by omega) (by omega)) (by omega) fun k hk1 hk2 hk3=>?_)))))
 dsimp only
 have lo:∀n,i<=n->n<i+k->∀z:n<a.size,r a[n]<=r b[j]:=fun n h1 h2 z=>by
  obtain⟨x,rfl⟩:∃x,n=i+x:=⟨n - i,by omega⟩
  have:=hk2 x (by omega) z
  unfold bT at this;simp at this;omega
 have hi2:∀z:i+k<a.size,r b[j]<=r a[i+k]:=fun z=>by
  have:=hk3 k (Nat.le_refl _) (by omega) z
  unfold bT at this;simp at this;omega
 have kl:i+k<a.size:=by
  rcases Nat.lt_or_ge (i+k) a.size with q | q
  ·exact q
  ·have h1:=lo (a.size - 1) (by omega) (by omega) (by omega)
   have h2:=t.la (by omega) b[j] (by simp)
   omega
 by_cases k0:k > 0
 ·rw[if_pos k0]
  have m2:=m.appA t hj lo
  by_cases e2:i+k+1=a.size
  ·rw[if_pos (by simpa using e2)]
   exact wpS_pure (hd _ _ _ _ _ _ (.inl ⟨_,rfl,m2.dl t e2⟩))
  ·rw[if_neg (by simpa using e2),if_neg (by simp;omega)]
   exact b1e C t (c0z hk) m2 (by omega) hj (by omega) (hi2 kl) hd hy
 ·rw[if_neg k0]
  have:k=0:=by omega
  subst this
  exact b1e C t (c0z hk) m hi hj hn (hi2 kl) hd hy
end
section
variable {M:Model}{A:Around}{E:Value->Shared->Prop}{s:Shared}{κ:SortKind}{r:Keyed->Int}{P:Keyed->Prop}{a b:Array Keyed}{all:List Keyed}
theorem IV.weak {n m:Nat}{z:Option (Array Keyed)}{o:Array Keyed}{i j:Nat}(h:IV r all a b m z o i j)(nm:n<=m):IV r all a b n z o i j:=h.imp id fun⟨a1,a2,a3,a4,a5⟩=>⟨a1,a2,a3,a4,Nat.le_trans nm a5⟩
theorem f1p (C:Cm M A E s κ r P)(t:Two r P a b){st:SortSt}(hk:kindOf st=κ){o:Array Keyed}{i j g n:Nat}(m:JL r all a b o i j)(hi:i+1<a.size)(hj:j<b.size)(hn:n<=i+j){Q:ForInStep T5->SortSt->Prop}
  (hd:∀z o i j g g',(∃x,z=some x/\Res r all x)->Q (.done (z,o,i,j,g)) (stG st g')) (hy:∀o i j g g',IV r all a b (n+1) none o i j->Q (.yield (none,o,i,j,g)) (stG st g')):wpS M A E s (loO a b (none,o,i,j,g)) Q st:=by
 unfold loO
 dsimp only
 refine wpS_bind (wpS_mono (wpS_forRange (I:=fun x c st'=>st'=st/\∃o i j c1 d,c=(none,o,i,j,c1,d)/\IV r all a b (n+x) none o i j)
  (Q:=fun c st'=>st'=st/\IV r all a b (n+1) c.1 c.2.1 c.2.2.1 c.2.2.2.1) ?_ ?_ ⟨rfl,o,i,j,0,0,rfl,.inr ⟨rfl,m,hi,hj,by omega⟩⟩) ?_)
 ·rintro x c st' _ hx ⟨rfl,o,i,j,c1,d,rfl,iv⟩
  rcases iv with⟨_,e,_⟩ | ⟨_,m,hi,hj,hn⟩
  ·cases e
  ·refine f1q C t hk m hi hj hn (fun z o i j c d iv=>⟨rfl,?_⟩) fun o i j c d iv=>⟨rfl,o,i,j,c,d,rfl,?_⟩
   ·exact iv.weak (by omega)
   ·exact iv.weak (by omega)
 ·rintro c st' ⟨rfl,o,i,j,c1,d,rfl,iv⟩
  exact⟨rfl,iv.weak (by omega)⟩
 ·rintro⟨z,o,i,j,c1,d⟩ st' ⟨rfl,iv⟩
  dsimp only at iv ⊢
  rcases iv with⟨x,rfl,hx⟩ | ⟨rfl,m,hi,hj,hn⟩
  ·exact wpS_pure (hd _ _ _ _ _ (gallopOf st') ⟨x,rfl,hx⟩)
  ·dsimp only
   refine wpS_bind (wpS_lift (wpAny_rule ⟨rfl,?_⟩))
   refine wpS_bind (wpS_mono (wpS_forRange (I:=fun x c st2=>(∃g',st2=stG st' g')/\∃o i j g c1 d,c=(none,o,i,j,g,c1,d)/\IV r all a b (n+1) none o i j)
    (Q:=fun c st2=>(∃g',st2=stG st' g')/\IV r all a b (n+1) c.1 c.2.1 c.2.2.1 c.2.2.2.1) ?_ ?_ ⟨⟨gallopOf st',rfl⟩,o,i,j,_,_,_,rfl,.inr ⟨rfl,m,hi,hj,hn⟩⟩) ?_)
   ·rintro x c st2 _ hx ⟨⟨g',rfl⟩,o,i,j,g,c1,d,rfl,iv⟩
    rcases iv with⟨_,e,_⟩ | ⟨_,m,hi,hj,hn⟩
    ·cases e
    ·unfold lo2
     dsimp only
     split
     ·exact b1f C t (c0z hk) m hi hj hn (fun z o i j c d iv=>⟨⟨_,rfl⟩,iv⟩) fun o i j c d iv=>⟨⟨_,rfl⟩,_,_,_,_,_,_,rfl,iv⟩
     ·exact b1f C t (c0z hk) m hi hj hn (fun z o i j c d iv=>⟨⟨_,rfl⟩,iv⟩) fun o i j c d iv=>⟨⟨_,rfl⟩,_,_,_,_,_,_,rfl,iv⟩
   ·rintro c st2 ⟨g',o,i,j,g,c1,d,rfl,iv⟩
    exact⟨g',iv⟩
   ·rintro⟨z,o,i,j,g,c1,d⟩ st2 ⟨⟨g',rfl⟩,iv⟩
    dsimp only at iv ⊢
    rcases iv with⟨x,rfl,hx⟩ | ⟨rfl,m,hi,hj,hn⟩
    ·exact wpS_pure (hd _ _ _ _ _ _ ⟨x,rfl,hx⟩)
    ·dsimp only
     rw[m0k]
     exact wpS_bind (wpS_modify (wpS_pure (hy _ _ _ _ _ (.inr ⟨rfl,m,hi,hj,hn⟩))))
theorem Mg.start (sa:Srt r a.toList)(sb:Srt r b.toList):Mg r (a.toList++b.toList) [] a.toList b.toList :=
 ⟨List.Perm.refl _,List.Pairwise.nil,sa,sb,(fun _ h=>nomatch h),(fun _ h=>nomatch h)⟩
theorem f1m (C:Cm M A E s κ r P)(t:Two r P a b){st:SortSt}(hk:kindOf st=κ)(ha:0<a.size)(hb:0<b.size){Q:Array Keyed->SortSt->Prop}(h:∀x g,Res r (a.toList++b.toList) x->Q x (stG st g)):wpS M A E s (mLo a b) Q st:=by
 rw[h1d]
 refine wpS_bind (wpS_lift (wpAny_rule ⟨rfl,?_⟩))
 refine wpS_bind (b0s (Array.getElem?_eq_getElem hb) ?_)
 have m0:JL r (a.toList++b.toList) a b #[] 0 0:=by
  show Mg _ _ _ _ _
  rw[List.drop_zero,List.drop_zero]
  exact Mg.start t.sa t.sb
 have m:JL r (a.toList++b.toList) a b #[b[0]] 0 1:=m0.pushB t ha hb (Int.le_of_lt (t.fb hb _ (by simp)))
 by_cases e1:1=b.size
 ·rw[if_pos (by simpa using e1)]
  exact wpS_pure (h _ (gallopOf st) (m.dn e1))
 rw[if_neg (by simpa using e1)]
 by_cases e2:0+1=a.size
 ·rw[if_pos (by simpa using e2)]
  exact wpS_pure (h _ (gallopOf st) (m.dl t e2))
 rw[if_neg (by simpa using e2)]
 refine wpS_bind (wpS_get (wpS_bind (wpS_mono (wpS_forRange (I:=fun x c st2=>(∃g',st2=stG st g')/\∃o i j g,c=(none,o,i,j,g)/\IV r (a.toList++b.toList) a b x none o i j)
  (Q:=fun c st2=>(∃g',st2=stG st g')/\∃x,c.1=some x/\Res r (a.toList++b.toList) x) ?_ ?_ ⟨⟨gallopOf st,rfl⟩,_,_,_,_,rfl,.inr ⟨rfl,m,by omega,by omega,by omega⟩⟩) ?_)))
 ·rintro x c st2 _ hx ⟨⟨g',rfl⟩,o,i,j,g,rfl,iv⟩
  rcases iv with⟨_,e,_⟩ | ⟨_,m,hi,hj,hn⟩
  ·cases e
  ·exact f1p C t (c0z hk) m hi hj hn (fun z o i j g g' e=>⟨⟨_,rfl⟩,e⟩) fun o i j g g' iv=>⟨⟨_,rfl⟩,_,_,_,_,rfl,iv⟩
 ·rintro c st2 ⟨g',o,i,j,g,rfl,iv⟩
  rcases iv with⟨_,e,_⟩ | ⟨_,m,hi,hj,hn⟩
  ·cases e
  ·omega
 ·rintro⟨z,q⟩ st2 ⟨⟨g',rfl⟩,x,e,hx⟩
  dsimp only at e ⊢
  subst e
  exact wpS_pure (h _ _ hx)
end
def mHi:Array Keyed->Array Keyed->SM (Array Keyed):=sortPriv% PySem.Builtin.mergeHi
def hn (a b o:Array Keyed)(p q:Nat):Array Keyed:=a.extract 0 p++b.extract 0 q++o.reverse
def hf (a b o:Array Keyed)(p q:Nat):Array Keyed:=b.extract 0 q++a.extract 0 p++o.reverse
theorem h1g (a b:Array Keyed):mHi a b=(do
  rule "list.sort.merge-hi"
  let t:=a.size+b.size
  let mut p:=a.size - 1
  let mut q:=b.size
  let mut o:Array Keyed:=#[<- elem' a p]
  if p==0 then return hn a b o p q
  if q==1 then return hf a b o p q
  let mut g:=gallopOf (<- get)
  for _ in [0:t] do
   let mut c:=0
   let mut d:=0
   for _ in [0:t] do
    let some z <- lt' (<- elem' b (q - 1)) (<- elem' a (p - 1)) | return hn a b o p q
    if z then
     p:=p - 1;o:=o.push (<- elem' a p);c:=c+1;d:=0
     if p==0 then return hn a b o p q
     if c>=g then break
    else
     q:=q - 1;o:=o.push (<- elem' b q);d:=d+1;c:=0
     if q==1 then return hf a b o p q
     if d>=g then break
   rule "list.sort.gallop"
   g:=g+1
   for _ in [0:t] do
    if g > 1 then g:=g - 1
    setG g
    let some k <- gal false (<- elem' b (q - 1)) a 0 p (p - 1) | return hn a b o p q
    let l:=p - k
    c:=l
    if l > 0 then
     o:=o++(a.extract k p).reverse;p:=k
     if p==0 then return hn a b o p q
    q:=q - 1;o:=o.push (<- elem' b q)
    if q==1 then return hf a b o p q
    let some k <- gal true (<- elem' a (p - 1)) b 0 q (q - 1) | return hn a b o p q
    let l:=q - k
    d:=l
    if l > 0 then
     o:=o++(b.extract k q).reverse;q:=k
     if q==1 then return hf a b o p q
     if q==0 then return hn a b o p q
    p:=p - 1;o:=o.push (<- elem' a p)
    if p==0 then return hn a b o p q
    if c<7&&d<7 then break
   g:=g+1
   setG g
  (unsupported "internal:list.sort.merge-bound" : SM (Array Keyed))):=rfl
abbrev U7:=Option (Array Keyed)×Nat×Nat×Array Keyed×Nat×Nat×Nat
abbrev U6:=Option (Array Keyed)×Nat×Nat×Array Keyed×Nat×Nat
abbrev U5:=Option (Array Keyed)×Nat×Nat×Array Keyed×Nat
def hiC (a b o:Array Keyed)(p q g c d:Nat):SM (ForInStep U7):=do
 let x <- elem' a (p - 1)
 if p - 1==0 then pure (.done (some (hn a b (o.push x) (p - 1) q),p - 1,q,o.push x,g,c,d))
 else if c<7&&d<7 then pure (.done (none,p - 1,q,o.push x,g,c,d))
 else pure (.yield (none,p - 1,q,o.push x,g,c,d))
def hiB (a b o:Array Keyed)(p q g c d:Nat):SM (ForInStep U7):=do
 let x <- elem' b (q - 1)
 if q - 1==1 then pure (.done (some (hf a b (o.push x) p (q - 1)),p,q - 1,o.push x,g,c,d))
 else
  let y <- elem' a (p - 1)
  let some k <- gal true y b 0 (q - 1) (q - 1 - 1) | pure (.done (some (hn a b (o.push x) p (q - 1)),p,q - 1,o.push x,g,c,d))
  if q - 1 - k > 0 then
   if k==1 then pure (.done (some (hf a b (o.push x++(b.extract k (q - 1)).reverse) p k),p,k,o.push x++(b.extract k (q - 1)).reverse,g,c,q - 1 - k))
   else if k==0 then pure (.done (some (hn a b (o.push x++(b.extract k (q - 1)).reverse) p k),p,k,o.push x++(b.extract k (q - 1)).reverse,g,c,q - 1 - k))
   else hiC a b (o.push x++(b.extract k (q - 1)).reverse) p k g c (q - 1 - k)
  else hiC a b (o.push x) p (q - 1) g c (q - 1 - k)
def hiA (a b o:Array Keyed)(p q g c d:Nat):SM (ForInStep U7):=do
 setG g
 let y <- elem' b (q - 1)
 let some k <- gal false y a 0 p (p - 1) | pure (.done (some (hn a b o p q),p,q,o,g,c,d))
 if p - k > 0 then
  if k==0 then pure (.done (some (hn a b (o++(a.extract k p).reverse) k q),k,q,o++(a.extract k p).reverse,g,p - k,d))
  else hiB a b (o++(a.extract k p).reverse) k q g (p - k) d
 else hiB a b o p q g (p - k) d
def hi2 (a b:Array Keyed)(z:U7):SM (ForInStep U7) :=
 if z.2.2.2.2.1 > 1 then hiA a b z.2.2.2.1 z.2.1 z.2.2.1 (z.2.2.2.2.1 - 1) z.2.2.2.2.2.1 z.2.2.2.2.2.2 else hiA a b z.2.2.2.1 z.2.1 z.2.2.1 z.2.2.2.2.1 z.2.2.2.2.2.1 z.2.2.2.2.2.2
def hi1 (a b:Array Keyed)(g:Nat)(z:U6):SM (ForInStep U6):=do
 let p:=z.2.1
 let q:=z.2.2.1
 let o:=z.2.2.2.1
 let c:=z.2.2.2.2.1
 let d:=z.2.2.2.2.2
 let x <- elem' b (q - 1)
 let y <- elem' a (p - 1)
 let some z <- lt' x y | pure (.done (some (hn a b o p q),p,q,o,c,d))
 if z then
  let x <- elem' a (p - 1)
  if p - 1==0 then pure (.done (some (hn a b (o.push x) (p - 1) q),p - 1,q,o.push x,c+1,0))
  else if c+1>=g then pure (.done (none,p - 1,q,o.push x,c+1,0))
  else pure (.yield (none,p - 1,q,o.push x,c+1,0))
 else
  let y <- elem' b (q - 1)
  if q - 1==1 then pure (.done (some (hf a b (o.push y) p (q - 1)),p,q - 1,o.push y,0,d+1))
  else if d+1>=g then pure (.done (none,p,q - 1,o.push y,0,d+1))
  else pure (.yield (none,p,q - 1,o.push y,0,d+1))
def hiO (a b:Array Keyed)(q:U5):SM (ForInStep U5):=do
 let u <- forIn [0:a.size+b.size] ((none,q.2.1,q.2.2.1,q.2.2.2.1,0,0):U6) fun _ z=>hi1 a b q.2.2.2.2 z
 match u.1 with
 | some x=>pure (.done (some x,u.2.1,u.2.2.1,u.2.2.2.1,q.2.2.2.2))
 | none =>
  rule "list.sort.gallop"
  let v <- forIn [0:a.size+b.size] ((none,u.2.1,u.2.2.1,u.2.2.2.1,q.2.2.2.2+1,u.2.2.2.2.1,u.2.2.2.2.2):U7) fun _ z=>hi2 a b z
  match v.1 with
  | some x=>pure (.done (some x,v.2.1,v.2.2.1,v.2.2.2.1,v.2.2.2.2.1))
  | none=>do
   setG (v.2.2.2.2.1+1)
   pure (.yield (none,v.2.1,v.2.2.1,v.2.2.2.1,v.2.2.2.2.1+1))
theorem h1f (a b:Array Keyed):mHi a b=(do
  rule "list.sort.merge-hi"
  let x <- elem' a (a.size - 1)
  if a.size - 1==0 then return hn a b #[x] (a.size - 1) b.size
  if b.size==1 then return hf a b #[x] (a.size - 1) b.size
  let u <- get
  let v <- forIn [0:a.size+b.size] ((none,a.size - 1,b.size,#[x],gallopOf u):U5) fun _ z=>hiO a b z
  match v.1 with
  | some x=>pure x
  | none=>(unsupported "internal:list.sort.merge-bound" : SM (Array Keyed))):=by
 refine(h1g a b).trans ?_
 dsimp only
 refine congrArg (bind _) (funext fun _=>?_)
 refine congrArg (bind _) (funext fun x=>?_)
 refine ite_congr rfl (fun _=>rfl) fun _=>?_
 refine ite_congr rfl (fun _=>rfl) fun _=>?_
 refine congrArg (bind _) (funext fun u=>?_)
 refine congr (congrArg bind (congrArg (forIn _ _) (funext fun _=>funext fun q=>?_))) (funext fun v=>?_)
 ·unfold hiO
  refine congr (congrArg bind (congrArg (forIn _ _) (funext fun _=>funext fun q2=>?_))) (funext fun v=>?_)
  ·unfold hi1
   rfl
  ·rcases v with⟨v,v2⟩
   cases v with
   | some v=>rfl
   | none =>
    dsimp only
    refine congrArg (bind _) (funext fun _=>?_)
    refine congr (congrArg bind (congrArg (forIn _ _) (funext fun _=>funext fun q3=>?_))) (funext fun v=>?_)
    ·unfold hi2 hiA hiB hiC
     rfl
    ·rcases v with⟨v,v2⟩
     cases v with
     | some v=>rfl
     | none=>rfl
 ·rcases v with⟨v,v2⟩
  cases v with
  | some v=>rfl
  | none=>rfl
structure Mh (r:Keyed->Int)(all A B out:List Keyed):Prop where
 pm:(A++B++out).Perm all
 so:Srt r out
 sa:Srt r A
 sb:Srt r B
 ao:∀x∈A,∀y∈out,r x<=r y
 bo:∀x∈B,∀y∈out,r x<=r y
section
variable {r:Keyed->Int}{all out A B X:List Keyed}
theorem Mh.takeB (m:Mh r all A (B++X) out)(h:∀x∈X,∀y∈A,r y<=r x):Mh r all A B (X++out):=by
 have s:=List.pairwise_append.mp m.sb
 refine⟨by have:=m.pm;simpa [List.append_assoc] using this,List.pairwise_append.mpr ⟨s.2.1,m.so,fun x hx y hy=>m.bo x (List.mem_append_right _ hx) y hy⟩,m.sa,s.1,fun x hx y hy=>?_,fun x hx y hy=>?_⟩
 ·rcases List.mem_append.mp hy with q | q
  ·exact h y q x hx
  ·exact m.ao x hx y q
 ·rcases List.mem_append.mp hy with q | q
  ·exact s.2.2 x hx y q
  ·exact m.bo x (List.mem_append_left _ hx) y q
theorem Mh.takeA (m:Mh r all (A++X) B out)(h:∀x∈X,∀y∈B,r y<=r x):Mh r all A B (X++out):=by
 have s:=List.pairwise_append.mp m.sa
 refine⟨?_,List.pairwise_append.mpr ⟨s.2.1,m.so,fun x hx y hy=>m.ao x (List.mem_append_right _ hx) y hy⟩,s.1,m.sb,fun x hx y hy=>?_,fun x hx y hy=>?_⟩
 ·refine List.Perm.trans ?_ m.pm
  rw[List.append_assoc,List.append_assoc,List.append_assoc]
  refine List.Perm.append_left A ?_
  rw[<- List.append_assoc,<- List.append_assoc]
  exact List.Perm.append_right out List.perm_append_comm
 ·rcases List.mem_append.mp hy with q | q
  ·exact s.2.2 x hx y q
  ·exact m.ao x (List.mem_append_left _ hx) y q
 ·rcases List.mem_append.mp hy with q | q
  ·exact h y q x hx
  ·exact m.bo x hx y q
end
theorem v0m {a:Array Keyed}{p:Nat}(h:p - 1<a.size)(h0:0<p):a.toList.take p=a.toList.take (p - 1)++[a[p - 1]]:=by
 obtain⟨n,rfl⟩:∃n,p=n+1:=⟨p - 1,by omega⟩
 simp only[Nat.add_sub_cancel]at h ⊢
 rw[List.take_succ_eq_append_getElem (by simpa using h)];simp
theorem r0x {a:Array Keyed}{p:Nat}{x:Keyed}(h:x∈a.toList.take p):∃k,k<p/\∃(q:k<a.size),a[k]=x:=by
 obtain⟨n,hn,e⟩:=List.getElem_of_mem h
 rw[List.getElem_take]at e
 rw[List.length_take]at hn
 exact⟨n,by omega,by simp at hn;omega,by simpa using e⟩
theorem ext0 (a:Array Keyed)(p:Nat):(a.extract 0 p).toList=a.toList.take p:=by
 rw[Array.toList_extract,List.extract_eq_take_drop];simp
theorem l0i {a:Array Keyed}{k p:Nat}(h:k<=p):a.toList.take p=a.toList.take k++(a.extract k p).toList:=by
 rw[Array.toList_extract,List.extract_eq_take_drop]
 obtain⟨n,rfl⟩:∃n,p=k+n:=⟨p - k,by omega⟩
 rw[List.take_add,Nat.add_sub_cancel_left]
theorem t0c {a:Array Keyed}{k p:Nat}{x:Keyed}(h:x∈(a.extract k p).toList):∃m,k<=m/\m<p/\∃(q:m<a.size),a[m]=x:=by
 rw[Array.toList_extract,List.extract_eq_take_drop]at h
 obtain⟨n,hn,e⟩:=List.getElem_of_mem h
 rw[List.length_take,List.length_drop]at hn
 rw[List.getElem_take,List.getElem_drop]at e
 exact⟨k+n,by omega,by omega,by simp at hn;omega,by simpa using e⟩
section
variable {M:Model}{A:Around}{E:Value->Shared->Prop}{s:Shared}{κ:SortKind}{r:Keyed->Int}{P:Keyed->Prop}{a b:Array Keyed}{all:List Keyed}
abbrev JH (r:Keyed->Int)(all:List Keyed)(a b o:Array Keyed)(p q:Nat):Prop:=Mh r all (a.toList.take p) (b.toList.take q) o.toList.reverse
theorem n0e (sa:Srt r a.toList){p:Nat}(h:p - 1<a.size){z:Int}(hz:r a[p - 1]<=z):∀y∈a.toList.take p,r y<=z:=fun y hy=>by
 obtain⟨k,h1,h2,rfl⟩:=r0x hy
 exact Int.le_trans (l0k sa (by omega) h) hz
theorem JH.pushB (t:Two r P a b){o:Array Keyed}{p q:Nat}(m:JH r all a b o p q)(hp:p - 1<a.size)(hq:q - 1<b.size)(q0:0<q)(h:r a[p - 1]<=r b[q - 1]):JH r all a b (o.push b[q - 1]) p (q - 1):=by
 unfold JH at m ⊢
 rw[v0m hq q0]at m
 have:=m.takeB fun x hx y hy=>by
  rw[List.mem_singleton]at hx;subst hx
  exact n0e t.sa hp h y hy
 simpa using this
theorem JH.pushA (t:Two r P a b){o:Array Keyed}{p q:Nat}(m:JH r all a b o p q)(hp:p - 1<a.size)(hq:q - 1<b.size)(p0:0<p)(h:r b[q - 1]<=r a[p - 1]):JH r all a b (o.push a[p - 1]) (p - 1) q:=by
 unfold JH at m ⊢
 rw[v0m hp p0]at m
 have:=m.takeA fun x hx y hy=>by
  rw[List.mem_singleton]at hx;subst hx
  exact n0e t.sb hq h y hy
 simpa using this
theorem JH.appA (t:Two r P a b){o:Array Keyed}{p q k:Nat}(m:JH r all a b o p q)(kp:k<=p)(hq:q - 1<b.size)(h:∀n,k<=n->n<p->∀z:n<a.size,r b[q - 1]<=r a[n]):JH r all a b (o++(a.extract k p).reverse) k q:=by
 unfold JH at m ⊢
 rw[l0i kp]at m
 have:=m.takeA fun x hx y hy=>by
  obtain⟨n,h1,h2,h3,rfl⟩:=t0c hx
  exact n0e t.sb hq (h n h1 h2 h3) y hy
 rw[Array.toList_append,Array.toList_reverse,List.reverse_append,List.reverse_reverse];exact this
theorem JH.appB (t:Two r P a b){o:Array Keyed}{p q k:Nat}(m:JH r all a b o p q)(kq:k<=q)(hp:p - 1<a.size)(h:∀n,k<=n->n<q->∀z:n<b.size,r a[p - 1]<=r b[n]):JH r all a b (o++(b.extract k q).reverse) p k:=by
 unfold JH at m ⊢
 rw[l0i (a:=b) kq]at m
 have:=m.takeB fun x hx y hy=>by
  obtain⟨n,h1,h2,h3,rfl⟩:=t0c hx
  exact n0e t.sa hp (h n h1 h2 h3) y hy
 rw[Array.toList_append,Array.toList_reverse,List.reverse_append,List.reverse_reverse];exact this
theorem JH.hn {o:Array Keyed}{p q:Nat}(m:JH r all a b o p q)(h0:p=0∨q=0):Res r all (hn a b o p q):=by
 have e:(L2.hn a b o p q).toList=a.toList.take p++b.toList.take q++o.toList.reverse:=by unfold L2.hn;rw[Array.toList_append,Array.toList_append,ext0,ext0,Array.toList_reverse]
 unfold Res
 rw[e]
 refine⟨m.pm,List.pairwise_append.mpr ⟨List.pairwise_append.mpr ⟨m.sa,m.sb,fun x hx y hy=>?_⟩,m.so,fun x hx y hy=>?_⟩⟩
 ·rcases h0 with rfl | rfl
  ·simp at hx
  ·simp at hy
 ·rcases List.mem_append.mp hx with z | z
  ·exact m.ao x z y hy
  ·exact m.bo x z y hy
theorem JH.hf (t:Two r P a b){o:Array Keyed}{p q:Nat}(m:JH r all a b o p q)(hb:0<b.size)(h0:q=1):Res r all (hf a b o p q):=by
 have e:(L2.hf a b o p q).toList=b.toList.take q++a.toList.take p++o.toList.reverse:=by unfold L2.hf;rw[Array.toList_append,Array.toList_append,ext0,ext0,Array.toList_reverse]
 unfold Res
 rw[e]
 refine⟨List.Perm.trans (List.Perm.append_right _ List.perm_append_comm) m.pm,List.pairwise_append.mpr ⟨List.pairwise_append.mpr ⟨m.sb,m.sa,fun x hx y hy=>?_⟩,m.so,fun x hx y hy=>?_⟩⟩
 ·obtain⟨k,h1,h2,rfl⟩:=r0x hx
  have:k=0:=by omega
  subst this
  exact Int.le_of_lt (t.fb hb y (List.mem_of_mem_take hy))
 ·rcases List.mem_append.mp hx with z | z
  ·exact m.bo x z y hy
  ·exact m.ao x z y hy
def IH (r:Keyed->Int)(all:List Keyed)(a b:Array Keyed)(n:Nat)(z:Option (Array Keyed))(p q:Nat)(o:Array Keyed):Prop :=
 (∃x,z=some x/\Res r all x)∨(z=none/\JH r all a b o p q/\1<=p/\2<=q/\p<=a.size/\q<=b.size/\p+q+n<=a.size+b.size)
theorem IH.weak {n m:Nat}{z:Option (Array Keyed)}{o:Array Keyed}{i j:Nat}(h:IH r all a b m z i j o)(nm:n<=m):IH r all a b n z i j o:=h.imp id fun⟨a1,a2,a3,a4,a5,a6,a7⟩=>⟨a1,a2,a3,a4,a5,a6,by omega⟩
theorem f1s (C:Cm M A E s κ r P)(t:Two r P a b){st:SortSt}(hk:kindOf st=κ){o:Array Keyed}{p q c d g n:Nat}(m:JH r all a b o p q)(hp:1<=p)(hq:2<=q)(lp:p<=a.size)(lq:q<=b.size)(hn:p+q+n<=a.size+b.size){Q:ForInStep U6->SortSt->Prop}
  (hd:∀z p q o c d,IH r all a b (n+1) z p q o->Q (.done (z,p,q,o,c,d)) st) (hy:∀p q o c d,IH r all a b (n+1) none p q o->Q (.yield (none,p,q,o,c,d)) st):wpS M A E s (hi1 a b g (none,p,q,o,c,d)) Q st:=by
 unfold hi1
 dsimp only
 have hi:p - 1<a.size:=by omega
 have hj:q - 1<b.size:=by omega
 refine wpS_bind (b0s (Array.getElem?_eq_getElem hj) (wpS_bind (b0s (Array.getElem?_eq_getElem hi) (wpS_bind (C.lt _ _ (t.pb _ (by simp)) (t.pa _ (by simp)) _ _ hk ?_)))))
 dsimp only
 by_cases z:r b[q - 1]<r a[p - 1]
 ·rw[decide_eq_true z,if_pos rfl]
  refine wpS_bind (b0s (Array.getElem?_eq_getElem hi) ?_)
  have m':=m.pushA t hi hj (by omega) (Int.le_of_lt z)
  by_cases e:p - 1=0
  ·rw[if_pos (by simpa using e)]
   exact wpS_pure (hd _ _ _ _ _ _ (.inl ⟨_,rfl,m'.hn (.inl e)⟩))
  ·rw[if_neg (by simpa using e)]
   have iv:IH r all a b (n+1) none (p - 1) q (o.push a[p - 1]):=.inr ⟨rfl,m',by omega,by omega,by omega,by omega,by omega⟩
   split
   ·exact wpS_pure (hd _ _ _ _ _ _ iv)
   ·exact wpS_pure (hy _ _ _ _ _ iv)
 ·rw[decide_eq_false z,if_neg (by simp)]
  refine wpS_bind (b0s (Array.getElem?_eq_getElem hj) ?_)
  have m':=m.pushB t hi hj (by omega) (by omega)
  by_cases e:q - 1=1
  ·rw[if_pos (by simpa using e)]
   exact wpS_pure (hd _ _ _ _ _ _ (.inl ⟨_,rfl,m'.hf t (by omega) e⟩))
  ·rw[if_neg (by simpa using e)]
   have iv:IH r all a b (n+1) none p (q - 1) (o.push b[q - 1]):=.inr ⟨rfl,m',by omega,by omega,by omega,by omega,by omega⟩
   split
   ·exact wpS_pure (hd _ _ _ _ _ _ iv)
   ·exact wpS_pure (hy _ _ _ _ _ iv)
theorem b1g (C:Cm M A E s κ r P)(t:Two r P a b){st:SortSt}{o:Array Keyed}{p q c d g n:Nat}(m:JH r all a b o p q)(hp:1<=p)(hq:2<=q)(lp:p<=a.size)(lq:q<=b.size)(hn:p+q+n<=a.size+b.size)(hl:r (b[q - 1]'(by omega))<=r (a[p - 1]'(by omega))){Q:ForInStep U7->SortSt->Prop}
  (hd:∀z p q o c d,IH r all a b n z p q o->Q (.done (z,p,q,o,g,c,d)) st) (hy:∀p q o c d,IH r all a b n none p q o->Q (.yield (none,p,q,o,g,c,d)) st):wpS M A E s (hiC a b o p q g c d) Q st:=by
 unfold hiC
 have hi:p - 1<a.size:=by omega
 have hj:q - 1<b.size:=by omega
 refine wpS_bind (b0s (Array.getElem?_eq_getElem hi) ?_)
 have m':=m.pushA t hi hj (by omega) hl
 by_cases e:p - 1=0
 ·rw[if_pos (by simpa using e)]
  exact wpS_pure (hd _ _ _ _ _ _ (.inl ⟨_,rfl,m'.hn (.inl e)⟩))
 ·rw[if_neg (by simpa using e)]
  have iv:IH r all a b n none (p - 1) q (o.push a[p - 1]):=.inr ⟨rfl,m',by omega,by omega,by omega,by omega,by omega⟩
  split
  ·exact wpS_pure (hd _ _ _ _ _ _ iv)
  ·exact wpS_pure (hy _ _ _ _ _ iv)
theorem b1h (C:Cm M A E s κ r P)(t:Two r P a b){st:SortSt}(hk:kindOf st=κ){o:Array Keyed}{p q c d g n:Nat}(m:JH r all a b o p q)(hp:1<=p)(hq:2<=q)(lp:p<=a.size)(lq:q<=b.size)(hn:p+q+n<=a.size+b.size)(hl:r (a[p - 1]'(by omega))<=r (b[q - 1]'(by omega))){Q:ForInStep U7->SortSt->Prop}
  (hd:∀z p q o c d,IH r all a b n z p q o->Q (.done (z,p,q,o,g,c,d)) st) (hy:∀p q o c d,IH r all a b n none p q o->Q (.yield (none,p,q,o,g,c,d)) st):wpS M A E s (hiB a b o p q g c d) Q st:=by
 unfold hiB
 have hi:p - 1<a.size:=by omega
 have hj:q - 1<b.size:=by omega
 refine wpS_bind (b0s (Array.getElem?_eq_getElem hj) ?_)
 have m':=m.pushB t hi hj (by omega) hl
 by_cases e:q - 1=1
 ·rw[if_pos (by simpa using e)]
  exact wpS_pure (hd _ _ _ _ _ _ (.inl ⟨_,rfl,m'.hf t (by omega) e⟩))
 ·rw[if_neg (by simpa using e)]
  refine wpS_bind (b0s (Array.getElem?_eq_getElem hi) (wpS_bind (l0d C hk (t.pa _ (by simp)) t.pb (by omega) (fun x y xy hy=>l0k t.sb (by omega) (by omega)) (by omega) fun k hk1 hk2 hk3=>?_)))
  simp only[Nat.zero_add]at hk2 hk3
  dsimp only
  have up:∀n,k<=n->n<q - 1->∀z:n<b.size,r a[p - 1]<=r b[n]:=fun n h1 h2 z=>by
   have:=hk3 n h1 h2 z
   unfold bT at this;simp at this;omega
  have dwn:∀z:k - 1<b.size,0<k->r b[k - 1]<=r a[p - 1]:=fun z h=>by
   have:=hk2 (k - 1) (by omega) z
   unfold bT at this;simp at this;omega
  by_cases k0:q - 1 - k > 0
  ·rw[if_pos k0]
   have m2:=m'.appB t (by omega) hi up
   by_cases e1:k=1
   ·rw[if_pos (by simpa using e1)]
    exact wpS_pure (hd _ _ _ _ _ _ (.inl ⟨_,rfl,m2.hf t (by omega) e1⟩))
   ·rw[if_neg (by simpa using e1)]
    by_cases e2:k=0
    ·rw[if_pos (by simpa using e2)]
     exact wpS_pure (hd _ _ _ _ _ _ (.inl ⟨_,rfl,m2.hn (.inr e2)⟩))
    ·rw[if_neg (by simpa using e2)]
     exact b1g C t m2 hp (by omega) lp (by omega) (by omega) (dwn _ (by omega)) hd hy
  ·rw[if_neg k0]
   have:k=q - 1:=by omega
   subst this
   exact b1g C t m' hp (by omega) lp (by omega) (by omega) (dwn _ (by omega)) hd hy
theorem b1i (C:Cm M A E s κ r P)(t:Two r P a b){st:SortSt}(hk:kindOf st=κ){o:Array Keyed}{p q c d g n:Nat}(m:JH r all a b o p q)(hp:1<=p)(hq:2<=q)(lp:p<=a.size)(lq:q<=b.size)(hn:p+q+n<=a.size+b.size){Q:ForInStep U7->SortSt->Prop}
  (hd:∀z p q o c d,IH r all a b n z p q o->Q (.done (z,p,q,o,g,c,d)) (stG st g)) (hy:∀p q o c d,IH r all a b n none p q o->Q (.yield (none,p,q,o,g,c,d)) (stG st g)):wpS M A E s (hiA a b o p q g c d) Q st:=by
 unfold hiA
 have hi:p - 1<a.size:=by omega
 have hj:q - 1<b.size:=by omega
 rw[m0k]
 refine wpS_bind (wpS_modify (wpS_bind (b0s (Array.getElem?_eq_getElem hj) (wpS_bind (l0d C (c0z hk) (t.pb _ (by simp)) t.pa (by omega) (fun x y xy hy=>l0k t.sa (by omega) (by omega)) (by omega) fun k hk1 hk2 hk3=>?_)))))
 simp only[Nat.zero_add]at hk2 hk3
 dsimp only
 have up:∀n,k<=n->n<p->∀z:n<a.size,r b[q - 1]<=r a[n]:=fun n h1 h2 z=>by
  have:=hk3 n h1 h2 z
  unfold bT at this;simp at this;omega
 have dwn:∀z:k - 1<a.size,0<k->r a[k - 1]<=r b[q - 1]:=fun z h=>by
  have:=hk2 (k - 1) (by omega) z
  unfold bT at this;simp at this;omega
 by_cases k0:p - k > 0
 ·rw[if_pos k0]
  have m2:=m.appA t (by omega) hj up
  by_cases e1:k=0
  ·rw[if_pos (by simpa using e1)]
   exact wpS_pure (hd _ _ _ _ _ _ (.inl ⟨_,rfl,m2.hn (.inl e1)⟩))
  ·rw[if_neg (by simpa using e1)]
   exact b1h C t (c0z hk) m2 (by omega) hq (by omega) lq (by omega) (dwn _ (by omega)) hd hy
 ·rw[if_neg k0]
  have:k=p:=by omega
  subst this
  exact b1h C t (c0z hk) m hp hq lp lq hn (dwn _ (by omega)) hd hy
end
section
variable {M:Model}{A:Around}{E:Value->Shared->Prop}{s:Shared}{κ:SortKind}{r:Keyed->Int}{P:Keyed->Prop}{a b:Array Keyed}{all:List Keyed}
theorem f1r (C:Cm M A E s κ r P)(t:Two r P a b){st:SortSt}(hk:kindOf st=κ){o:Array Keyed}{p q g n:Nat}(m:JH r all a b o p q)(hp:1<=p)(hq:2<=q)(lp:p<=a.size)(lq:q<=b.size)(hn:p+q+n<=a.size+b.size){Q:ForInStep U5->SortSt->Prop}
  (hd:∀z p q o g g',(∃x,z=some x/\Res r all x)->Q (.done (z,p,q,o,g)) (stG st g')) (hy:∀p q o g g',IH r all a b (n+1) none p q o->Q (.yield (none,p,q,o,g)) (stG st g')):wpS M A E s (hiO a b (none,p,q,o,g)) Q st:=by
 unfold hiO
 dsimp only
 refine wpS_bind (wpS_mono (wpS_forRange (I:=fun x c st'=>st'=st/\∃p q o c1 d,c=(none,p,q,o,c1,d)/\IH r all a b (n+x) none p q o)
  (Q:=fun c st'=>st'=st/\IH r all a b (n+1) c.1 c.2.1 c.2.2.1 c.2.2.2.1) ?_ ?_ ⟨rfl,p,q,o,0,0,rfl,.inr ⟨rfl,m,hp,hq,lp,lq,by omega⟩⟩) ?_)
 ·rintro x c st' _ hx ⟨rfl,p,q,o,c1,d,rfl,iv⟩
  rcases iv with⟨_,e,_⟩ | ⟨_,m,hp,hq,lp,lq,hn⟩
  ·cases e
  ·exact f1s C t hk m hp hq lp lq hn (fun z p q o c d iv=>⟨rfl,iv.weak (by omega)⟩) fun p q o c d iv=>⟨rfl,p,q,o,c,d,rfl,iv.weak (by omega)⟩
 ·rintro c st' ⟨rfl,p,q,o,c1,d,rfl,iv⟩
  exact⟨rfl,iv.weak (by omega)⟩
 ·rintro⟨z,p,q,o,c1,d⟩ st' ⟨rfl,iv⟩
  dsimp only at iv ⊢
  rcases iv with⟨x,rfl,hx⟩ | ⟨rfl,m,hp,hq,lp,lq,hn⟩
  ·exact wpS_pure (hd _ _ _ _ _ (gallopOf st') ⟨x,rfl,hx⟩)
  ·dsimp only
   refine wpS_bind (wpS_lift (wpAny_rule ⟨rfl,?_⟩))
   refine wpS_bind (wpS_mono (wpS_forRange (I:=fun x c st2=>(∃g',st2=stG st' g')/\∃p q o g c1 d,c=(none,p,q,o,g,c1,d)/\IH r all a b (n+1) none p q o)
    (Q:=fun c st2=>(∃g',st2=stG st' g')/\IH r all a b (n+1) c.1 c.2.1 c.2.2.1 c.2.2.2.1) ?_ ?_ ⟨⟨gallopOf st',rfl⟩,p,q,o,_,_,_,rfl,.inr ⟨rfl,m,hp,hq,lp,lq,hn⟩⟩) ?_)
   ·rintro x c st2 _ hx ⟨⟨g',rfl⟩,p,q,o,g,c1,d,rfl,iv⟩
    rcases iv with⟨_,e,_⟩ | ⟨_,m,hp,hq,lp,lq,hn⟩
    ·cases e
    ·unfold hi2
     dsimp only
     split
     ·exact b1i C t (c0z hk) m hp hq lp lq hn (fun z p q o c d iv=>⟨⟨_,rfl⟩,iv⟩) fun p q o c d iv=>⟨⟨_,rfl⟩,_,_,_,_,_,_,rfl,iv⟩
     ·exact b1i C t (c0z hk) m hp hq lp lq hn (fun z p q o c d iv=>⟨⟨_,rfl⟩,iv⟩) fun p q o c d iv=>⟨⟨_,rfl⟩,_,_,_,_,_,_,rfl,iv⟩
   ·rintro c st2 ⟨g',p,q,o,g,c1,d,rfl,iv⟩
    exact⟨g',iv⟩
   ·rintro⟨z,p,q,o,g,c1,d⟩ st2 ⟨⟨g',rfl⟩,iv⟩
    dsimp only at iv ⊢
    rcases iv with⟨x,rfl,hx⟩ | ⟨rfl,m,hp,hq,lp,lq,hn⟩
    ·exact wpS_pure (hd _ _ _ _ _ _ ⟨x,rfl,hx⟩)
    ·dsimp only
     rw[m0k]
     exact wpS_bind (wpS_modify (wpS_pure (hy _ _ _ _ _ (.inr ⟨rfl,m,hp,hq,lp,lq,hn⟩))))
theorem f1n (C:Cm M A E s κ r P)(t:Two r P a b){st:SortSt}(hk:kindOf st=κ)(ha:0<a.size)(hb:0<b.size){Q:Array Keyed->SortSt->Prop}(h:∀x g,Res r (a.toList++b.toList) x->Q x (stG st g)):wpS M A E s (mHi a b) Q st:=by
 rw[h1f]
 have hi:a.size - 1<a.size:=by omega
 refine wpS_bind (wpS_lift (wpAny_rule ⟨rfl,?_⟩))
 refine wpS_bind (b0s (Array.getElem?_eq_getElem hi) ?_)
 have m0:JH r (a.toList++b.toList) a b #[] a.size b.size:=by
  show Mh _ _ _ _ _
  rw[List.take_of_length_le (by simp),List.take_of_length_le (by simp)]
  exact⟨by simp,List.Pairwise.nil,t.sa,t.sb,(fun _ _ _ h=>nomatch h),(fun _ _ _ h=>nomatch h)⟩
 have m:JH r (a.toList++b.toList) a b #[a[a.size - 1]] (a.size - 1) b.size:=m0.pushA t hi (by omega) ha (Int.le_of_lt (t.la hi _ (by simp)))
 by_cases e1:a.size - 1=0
 ·rw[if_pos (by simpa using e1)]
  exact wpS_pure (h _ (gallopOf st) (m.hn (.inl e1)))
 rw[if_neg (by simpa using e1)]
 by_cases e2:b.size=1
 ·rw[if_pos (by simpa using e2)]
  exact wpS_pure (h _ (gallopOf st) (m.hf t hb e2))
 rw[if_neg (by simpa using e2)]
 refine wpS_bind (wpS_get (wpS_bind (wpS_mono (wpS_forRange (I:=fun x c st2=>(∃g',st2=stG st g')/\∃p q o g,c=(none,p,q,o,g)/\IH r (a.toList++b.toList) a b x none p q o)
  (Q:=fun c st2=>(∃g',st2=stG st g')/\∃x,c.1=some x/\Res r (a.toList++b.toList) x) ?_ ?_ ⟨⟨gallopOf st,rfl⟩,_,_,_,_,rfl,.inr ⟨rfl,m,by omega,by omega,by omega,by omega,by omega⟩⟩) ?_)))
 ·rintro x c st2 _ hx ⟨⟨g',rfl⟩,p,q,o,g,rfl,iv⟩
  rcases iv with⟨_,e,_⟩ | ⟨_,m,hp,hq,lp,lq,hn⟩
  ·cases e
  ·exact f1r C t (c0z hk) m hp hq lp lq hn (fun z p q o g g' e=>⟨⟨_,rfl⟩,e⟩) fun p q o g g' iv=>⟨⟨_,rfl⟩,_,_,_,_,rfl,iv⟩
 ·rintro c st2 ⟨g',p,q,o,g,rfl,iv⟩
  rcases iv with⟨_,e,_⟩ | ⟨_,m,hp,hq,lp,lq,hn⟩
  ·cases e
  ·omega
 ·rintro⟨z,q⟩ st2 ⟨⟨g',rfl⟩,x,e,hx⟩
  dsimp only at e ⊢
  subst e
  exact wpS_pure (h _ _ hx)
end
def wr (a:Array Keyed)(u:Nat)(m:List Keyed):Array Keyed:=m.zipIdx.foldl (fun a (p,j)=>a.setIfInBounds (u+j) p) a
theorem h1h (i:Nat):mergeAt' i=(do
  let st <- get
  let (some (u,n,w),some (v,m,_)):=((pendingOf st)[i]?,(pendingOf st)[i+1]?) | (unsupported "internal:list.sort.pending" : SM Bool)
  set (SortSt.mk' (kindOf st) (arrOf st) (((pendingOf st).setIfInBounds i (u,n+m,w)).eraseIdxIfInBounds (i+1)) (gallopOf st) (failedOf st))
  let some k <- gal false (<- elem' (arrOf st) v) (arrOf st) u n 0 | return false
  if n - k==0 then return true
  let some l <- gal true (<- elem' (arrOf st) (u+k+(n - k) - 1)) (arrOf st) v m (m - 1) | return false
  if l==0 then return true
  let z <- if n - k<=l then mLo ((arrOf st).extract (u+k) v) ((arrOf st).extract v (v+l))else mHi ((arrOf st).extract (u+k) v) ((arrOf st).extract v (v+l))
  modify fun st=>setArr st (wr (arrOf st) (u+k) z.toList)
  return (failedOf (<- get)).isNone):=rfl
theorem f1k (s:Nat):∀(m v u w:List Keyed) (k:Nat) (a:Array Keyed),a.toList=u++v++w->u.length=s+k->v.length=m.length->((m.zipIdx k).foldl (fun a (p,j)=>a.setIfInBounds (s+j) p) a).toList=u++m++w
 | [],v,u,w,k,a,h,hu,hv=>by
  have:v=[]:=List.length_eq_zero_iff.mp hv
  subst this
  simpa using h
 | p::m,[],u,w,k,a,h,hu,hv=>by simp at hv
 | p::m,q::v,u,w,k,a,h,hu,hv=>by
  rw[List.zipIdx_cons,List.foldl_cons]
  have:=f1k s m v (u++[p]) w (k+1) (a.setIfInBounds (s+k) p) (by
   rw[Array.toList_setIfInBounds,h,<- hu]
   simp) (by simp;omega) (by simpa using hv)
  rw[this];simp
theorem c1r {a:Array Keyed}{u v w m:List Keyed}(h:a.toList=u++v++w)(hv:v.length=m.length):(wr a u.length m).toList=u++m++w:=f1k u.length m v u w 0 a h rfl hv
theorem h0z {a:Array Keyed}{u v w:List Keyed}(h:a.toList=u++v++w){i:Nat}(hi:i<v.length):∃q:u.length+i<a.size,a[u.length+i]=v[i]:=by
 have hs:a.size=(u++v++w).length:=by rw[<- h];simp
 have q:u.length+i<a.size:=by rw[hs];simp;omega
 refine⟨q,?_⟩
 rw[<- Array.getElem_toList]
 simp only[h]
 rw[List.getElem_append_left (by simp;omega),List.getElem_append_right (by omega)]
 simp
theorem x0p {a:Array Keyed}{u v w:List Keyed}(h:a.toList=u++v++w){i j:Nat}(hi:i=u.length)(hj:j=u.length+v.length):(a.extract i j).toList=v:=by
 subst hi;subst hj
 rw[Array.toList_extract,List.extract_eq_take_drop,h]
 simp
theorem cut3 (u v w:List Keyed)(k:Nat):u++v++w=u++v.take k++v.drop k++w:=by rw[List.append_assoc u (v.take k),List.take_append_drop]
section
variable {M:Model}{A:Around}{E:Value->Shared->Prop}{s:Shared}{κ:SortKind}{r:Keyed->Int}{P:Keyed->Prop}
theorem srtL {l:List Keyed}(h:Srt r l){i j:Nat}(ij:i<=j)(hj:j<l.length):r (l[i]'(by omega))<=r l[j]:=by
 rcases Nat.lt_or_ge i j with q | q
 ·exact List.pairwise_iff_getElem.mp h i j (by omega) hj q
 ·have:i=j:=by omega
  subst this;exact Int.le_refl _
theorem f1l {st st':SortSt}{Q:PUnit->SortSt->Prop}(h:Q ⟨⟩ st'):wpS M A E s (set st':SM PUnit) Q st:=by
 unfold wpS;rw[StateT.run_set];exact wpAny_pure ⟨rfl,h⟩
theorem b1c (C:Cm M A E s κ r P){st:SortSt}{i u v n m w w':Nat}{pre X Y post:List Keyed}(hk:kindOf st=κ)(hf:failedOf st=none)(p1:(pendingOf st)[i]? = some (u,n,w))(p2:(pendingOf st)[i+1]? = some (v,m,w'))
  (hl:(arrOf st).toList=pre++X++Y++post) (hP:∀x∈(arrOf st).toList,P x) (hu:u=pre.length) (hn:n=X.length) (hv:v=pre.length+X.length) (hm:m=Y.length) (sx:Srt r X) (sy:Srt r Y) (nx:0<X.length) (ny:0<Y.length) {Q:Bool->SortSt->Prop}
  (h:∀Z arr g,Z.Perm (X++Y)->Srt r Z->arr.toList=pre++Z++post->Q true (SortSt.mk' κ arr (((pendingOf st).setIfInBounds i (u,n+m,w)).eraseIdxIfInBounds (i+1)) g none)):wpS M A E s (mergeAt' i) Q st:=by
 subst hu hn hv hm
 have lx:(arrOf st).toList=pre++X++(Y++post):=by rw[hl];simp
 have ly:(arrOf st).toList=(pre++X)++Y++post:=hl
 have hsz:(arrOf st).size=pre.length+X.length+Y.length+post.length:=by rw[<- Array.length_toList,hl];simp;omega
 have atx:∀i,i<X.length->∃q:pre.length+i<(arrOf st).size,(arrOf st)[pre.length+i]=X[i]!:=fun i hi=>by
  obtain⟨q,e⟩:=h0z lx hi
  exact⟨q,by rw[e,List.getElem!_eq_getElem?_getD,List.getElem?_eq_getElem hi];rfl⟩
 have aty:∀i (hi:i<Y.length),∃q:pre.length+X.length+i<(arrOf st).size,(arrOf st)[pre.length+X.length+i]=Y[i]:=fun i hi=>by
  obtain⟨q,e⟩:=h0z ly hi
  simp only[List.length_append]at q e
  exact⟨q,e⟩
 have y0:pre.length+X.length<(arrOf st).size:=by omega
 have ey0:(arrOf st)[pre.length+X.length]=Y[0]:=by
  obtain⟨q,e⟩:=aty 0 ny
  exact e
 rw[h1h]
 refine wpS_bind (wpS_get ?_)
 rw[p1,p2]
 dsimp only
 refine wpS_bind (f1l ?_)
 refine wpS_bind (b0s (Array.getElem?_eq_getElem y0) ?_)
 refine wpS_bind (l0d C (st:=SortSt.mk' _ _ _ _ _) hk (hP _ (by simp)) hP (by omega) (fun i j ij hj=>?_) (by omega) fun k k1 k2 k3=>?_)
 ·obtain⟨q1,e1⟩:=h0z lx (i:=i) (by omega)
  obtain⟨q2,e2⟩:=h0z lx (i:=j) (by omega)
  rw[e1,e2];exact srtL sx ij hj
 dsimp only
 have xlo:∀x∈X.take k,r x<=r Y[0]:=fun x hx=>by
  obtain⟨j,hj,rfl⟩:=List.getElem_of_mem hx
  rw[List.length_take]at hj
  rw[List.getElem_take]
  obtain⟨q,e⟩:=h0z lx (i:=j) (by omega)
  have:=k2 j (by omega) q
  rw[e,ey0]at this
  unfold bT at this;simp at this;exact this
 have xhi:∀x∈X.drop k,r Y[0]<r x:=fun x hx=>by
  obtain⟨j,hj,rfl⟩:=List.getElem_of_mem hx
  rw[List.length_drop]at hj
  rw[List.getElem_drop]
  obtain⟨q,e⟩:=h0z lx (i:=k+j) (by omega)
  have:=k3 (k+j) (by omega) (by omega) q
  rw[e,ey0]at this
  unfold bT at this;simp at this;exact this
 have ymin:∀y∈Y,r Y[0]<=r y:=fun y hy=>by
  obtain⟨j,hj,rfl⟩:=List.getElem_of_mem hy
  exact srtL sy (Nat.zero_le _) hj
 have sX:=List.pairwise_append.mp (show Srt r (X.take k++X.drop k)by rw[List.take_append_drop];exact sx)
 by_cases e1:X.length - k=0
 ·rw[if_pos (by simpa using e1)]
  have ek:X.take k=X:=List.take_of_length_le (by omega)
  refine wpS_pure ?_
  have:=h (X++Y) (arrOf st) (gallopOf st) (List.Perm.refl _) (List.pairwise_append.mpr ⟨sx,sy,fun x hx y hy=>Int.le_trans (xlo x (by rw[ek];exact hx)) (ymin y hy)⟩) (by rw[hl];simp)
  rw[<- hk,<- hf]at this
  exact this
 rw[if_neg (by simpa using e1)]
 have lastlt:pre.length+k+(X.length - k) - 1<(arrOf st).size:=by omega
 refine wpS_bind (b0s (Array.getElem?_eq_getElem lastlt) ?_)
 have elast:(arrOf st)[pre.length+k+(X.length - k) - 1]=X[X.length - 1]:=by
  obtain⟨q,e⟩:=h0z lx (i:=X.length - 1) (by omega)
  rw[<- e];congr 1;omega
 refine wpS_bind (l0d C (st:=SortSt.mk' _ _ _ _ _) hk (hP _ (by simp)) hP (by omega) (fun i j ij hj=>?_) (by omega) fun l l1 l2 l3=>?_)
 ·obtain⟨q1,e1⟩:=aty i (by omega)
  obtain⟨q2,e2⟩:=aty j (by omega)
  rw[e1,e2];exact srtL sy ij hj
 dsimp only
 have ylo:∀y∈Y.take l,r y<r X[X.length - 1]:=fun x hx=>by
  obtain⟨j,hj,rfl⟩:=List.getElem_of_mem hx
  rw[List.length_take]at hj
  rw[List.getElem_take]
  obtain⟨q,e⟩:=aty j (by omega)
  have:=l2 j (by omega) q
  rw[e,elast]at this
  unfold bT at this;simp at this;exact this
 have yhi:∀y∈Y.drop l,r X[X.length - 1]<=r y:=fun x hx=>by
  obtain⟨j,hj,rfl⟩:=List.getElem_of_mem hx
  rw[List.length_drop]at hj
  rw[List.getElem_drop]
  obtain⟨q,e⟩:=aty (l+j) (by omega)
  have:=l3 (l+j) (by omega) (by omega) q
  rw[e,elast]at this
  unfold bT at this;simp at this;exact this
 have xmax:∀x∈X,r x<=r X[X.length - 1]:=fun y hy=>by
  obtain⟨j,hj,rfl⟩:=List.getElem_of_mem hy
  exact srtL sx (by omega) (by omega)
 have sY:=List.pairwise_append.mp (show Srt r (Y.take l++Y.drop l)by rw[List.take_append_drop];exact sy)
 by_cases e2:l=0
 ·rw[if_pos (by simpa using e2)]
  refine wpS_pure ?_
  have:=h (X++Y) (arrOf st) (gallopOf st) (List.Perm.refl _) (List.pairwise_append.mpr ⟨sx,sy,fun x hx y hy=>Int.le_trans (xmax x hx) (yhi y (by rw[e2];exact hy))⟩) (by rw[hl];simp)
  rw[<- hk,<- hf]at this
  exact this
 rw[if_neg (by simpa using e2)]
 have l3':(arrOf st).toList=(pre++X.take k)++X.drop k++(Y++post):=lx.trans (cut3 _ _ _ k)
 have l4':(arrOf st).toList=(pre++X)++Y.take l++(Y.drop l++post):=(ly.trans (cut3 _ _ _ l)).trans (List.append_assoc _ _ _)
 have ex:((arrOf st).extract (pre.length+k) (pre.length+X.length)).toList=X.drop k:=x0p l3' (by simp;omega) (by simp;omega)
 have ey:((arrOf st).extract (pre.length+X.length) (pre.length+X.length+l)).toList=Y.take l:=x0p l4' (by simp) (by simp;omega)
 have sx':((arrOf st).extract (pre.length+k) (pre.length+X.length)).size=X.length - k:=by rw[<- Array.length_toList,ex];simp
 have sy':((arrOf st).extract (pre.length+X.length) (pre.length+X.length+l)).size=l:=by rw[<- Array.length_toList,ey];simp;omega
 have t:Two r P ((arrOf st).extract (pre.length+k) (pre.length+X.length)) ((arrOf st).extract (pre.length+X.length) (pre.length+X.length+l)):=by
  refine⟨fun x hx=>?_,fun x hx=>?_,by rw[ex];exact sX.2.1,by rw[ey];exact sY.1,fun q x hx=>?_,fun q x hx=>?_⟩
  ·rw[ex]at hx;exact hP _ (by rw[lx];simp[List.mem_of_mem_drop hx])
  ·rw[ey]at hx;exact hP _ (by rw[ly];simp[List.mem_of_mem_take hx])
  ·rw[ey]at hx
   have:=ylo x hx
   rw[Array.getElem_extract]
   obtain⟨q2,e⟩:=h0z lx (i:=X.length - 1) (by omega)
   have:(arrOf st)[pre.length+k+(((arrOf st).extract (pre.length+k) (pre.length+X.length)).size - 1)]'(by omega)=X[X.length - 1]:=by
    rw[<- e];congr 1;omega
   rw[this];exact ylo x hx
  ·rw[ex]at hx
   rw[Array.getElem_extract]
   simp only[Nat.add_zero]
   rw[ey0];exact xhi x hx
 have fin:∀z g,Res r (((arrOf st).extract (pre.length+k) (pre.length+X.length)).toList++((arrOf st).extract (pre.length+X.length) (pre.length+X.length+l)).toList) z ->
   Q true (SortSt.mk' κ (wr (arrOf st) (pre.length+k) z.toList) (((pendingOf st).setIfInBounds i (pre.length,X.length+Y.length,w)).eraseIdxIfInBounds (i+1)) g none):=by
  rintro z g ⟨zp,zs⟩
  rw[ex,ey]at zp
  have zl:(X.drop k++Y.take l).length=z.toList.length:=zp.length_eq.symm
  have lw:=c1r (a:=arrOf st) (u:=pre++X.take k) (v:=X.drop k++Y.take l) (w:=Y.drop l++post) (m:=z.toList) (by
   have e5:=cut3 pre X (Y.take l++(Y.drop l++post)) k
   rw[l4'];rw[List.append_assoc,e5];simp only[List.append_assoc]) zl
  have ul:(pre++X.take k).length=pre.length+k:=by simp;omega
  rw[ul]at lw
  have mem:∀y∈z.toList,y∈X.drop k∨y∈Y.take l:=fun y hy=>List.mem_append.mp (zp.mem_iff.mp hy)
  refine h (X.take k++z.toList++Y.drop l) _ g ?_ ?_ (by rw[lw];simp)
  ·have e3:X++Y=X.take k++(X.drop k++Y.take l)++Y.drop l:=by
    have e6:=cut3 [] X Y k
    have e7:=cut3 (X.take k++X.drop k) Y [] l
    simp only[List.nil_append,List.append_nil]at e6 e7
    rw[e6,e7];simp only[List.append_assoc]
   rw[e3]
   exact List.Perm.append_right _ (List.Perm.append_left _ zp)
  ·refine List.pairwise_append.mpr ⟨List.pairwise_append.mpr ⟨sX.1,zs,fun x hx y hy=>?_⟩,sY.2.1,fun x hx y hy=>?_⟩
   ·rcases mem y hy with q | q
    ·exact sX.2.2 x hx y q
    ·exact Int.le_trans (xlo x hx) (ymin y (List.mem_of_mem_take q))
   ·rcases List.mem_append.mp hx with q | q
    ·exact Int.le_trans (xmax x (List.mem_of_mem_take q)) (yhi y hy)
    ·rcases mem x q with q | q
     ·exact Int.le_trans (xmax x (List.mem_of_mem_drop q)) (yhi y hy)
     ·exact sY.2.2 x q y hy
 have last:∀z g,Res r (((arrOf st).extract (pre.length+k) (pre.length+X.length)).toList++((arrOf st).extract (pre.length+X.length) (pre.length+X.length+l)).toList) z ->
   Q (failedOf st).isNone (SortSt.mk' (kindOf st) (wr (arrOf st) (pre.length+k) z.toList) (((pendingOf st).setIfInBounds i (pre.length,X.length+Y.length,w)).eraseIdxIfInBounds (i+1)) g (failedOf st)):=fun z g hz=>by
  rw[hf,hk];exact fin z g hz
 split
 ·refine wpS_bind (f1m C t ?_ (by omega) (by omega) fun z g hz=>?_)
  ·exact hk
  exact wpS_bind (wpS_modify (wpS_bind (wpS_get (wpS_pure (last z g hz)))))
 ·refine wpS_bind (f1n C t ?_ (by omega) (by omega) fun z g hz=>?_)
  ·exact hk
  exact wpS_bind (wpS_modify (wpS_bind (wpS_get (wpS_pure (last z g hz)))))
end
def kr (r:Keyed->Int)(xs:Array Keyed)(i:Nat):Int:=(xs[i]?.map r).getD 0
theorem w0v {r:Keyed->Int}{xs ys:Array Keyed}{i j:Nat}(h:xs[i]? = ys[j]?):kr r xs i=kr r ys j:=by unfold kr;rw[h]
theorem c1d {r:Keyed->Int}{xs:Array Keyed}{c d:Nat}(hs:c<xs.size)(hd:d<=c)(k:Nat) :
  kr r (bubble xs c d) k=if k=c - d then kr r xs c else if c - d<k/\k<=c then kr r xs (k - 1)else kr r xs k:=by
 have e:=getElem?_bubble hs d hd k
 split
 ·rename_i g;rw[if_pos g]at e;exact w0v e
 ·rename_i g;rw[if_neg g]at e
  split
  ·rename_i g';rw[if_pos g']at e;exact w0v e
  ·rename_i g';rw[if_neg g']at e;exact w0v e
theorem w0u {r:Keyed->Int}{xs:Array Keyed}{i j:Nat}(hj:j<=xs.size)(k:Nat):kr r (mirror xs i j ((j - i) / 2)) k=if i<=k/\k<j then kr r xs (i+j - 1 - k)else kr r xs k:=by
 have e:=getElem?_mirror_all (i:=i) hj k
 split
 ·rename_i g;rw[if_pos g]at e;exact w0v e
 ·rename_i g;rw[if_neg g]at e;exact w0v e
theorem h0i {r:Keyed->Int}{xs:Array Keyed}{i j:Nat}(hj:j<=xs.size){v:Int}(hv:∀k,i<=k->k<j->kr r xs k=v)(k:Nat):kr r (mirror xs i j ((j - i) / 2)) k=kr r xs k:=by
 rw[w0u hj]
 split
 ·rename_i g;rw[hv _ (by omega) (by omega),hv k g.1 g.2]
 ·rfl
structure Bs (st0:SortSt)(lo:Nat)(st:SortSt):Prop where
 eq:st=setArr st0 (arrOf st)
 pm:(arrOf st).Perm (arrOf st0)
 ah:∀i,i<lo->(arrOf st)[i]? = (arrOf st0)[i]?
theorem Bs.sz {st0 st:SortSt}{lo:Nat}(b:Bs st0 lo st):(arrOf st).size=(arrOf st0).size:=b.pm.size_eq
theorem Bs.start (st:SortSt)(lo:Nat):Bs st lo st:=⟨rfl,Array.Perm.refl _,fun _ _=>rfl⟩
theorem Bs.mir {st0 st:SortSt}{lo i j:Nat}(b:Bs st0 lo st)(hi:lo<=i)(hj:j<=(arrOf st0).size):Bs st0 lo (setArr st (mirror (arrOf st) i j ((j - i) / 2))):=by
 refine⟨by rw[b.eq],(mirror_perm _ _ _ _).trans b.pm,fun k hk=>?_⟩
 show(mirror (arrOf st) i j ((j - i) / 2))[k]? = _
 rw[getElem?_mirror_all (by rw[b.sz];exact hj),if_neg (by omega)]
 exact b.ah k hk
theorem Bs.bub {st0 st:SortSt}{lo c d:Nat}(b:Bs st0 lo st)(hc:c<(arrOf st0).size)(hd:d<=c)(hl:lo<=c - d):Bs st0 lo (setArr st (bubble (arrOf st) c d)):=by
 refine⟨by rw[b.eq],(bubble_perm _ _ _).trans b.pm,fun k hk=>?_⟩
 show(bubble (arrOf st) c d)[k]? = _
 rw[getElem?_bubble (by rw[b.sz];exact hc) d hd,if_neg (by omega),if_neg (by omega)]
 exact b.ah k hk
def Up (r:Keyed->Int)(xs:Array Keyed)(lo n:Nat):Prop:=∀i j,i<=j->j<n->kr r xs (lo+i)<=kr r xs (lo+j)
def Dw (r:Keyed->Int)(xs:Array Keyed)(lo n:Nat):Prop:=∀i j,i<=j->j<n->kr r xs (lo+j)<=kr r xs (lo+i)
theorem Up.one {r:Keyed->Int}{xs:Array Keyed}{lo:Nat}:Up r xs lo 1:=fun i j h1 h2=>by
 have:i=j:=by omega
 subst this;exact Int.le_refl _
theorem Up.more {r:Keyed->Int}{xs:Array Keyed}{lo n:Nat}(u:Up r xs lo n)(h1:1<=n)(h:kr r xs (lo+(n - 1))<=kr r xs (lo+n)):Up r xs lo (n+1):=fun i j a b=>by
 rcases Nat.lt_or_ge j n with q | q
 ·exact u i j a q
 ·have e:j=n:=by omega
  subst e
  rcases Nat.lt_or_ge i j with z | z
  ·exact Int.le_trans (u i (j - 1) (by omega) (by omega)) h
  ·have:i=j:=by omega
   subst this;exact Int.le_refl _
theorem Dw.more {r:Keyed->Int}{xs:Array Keyed}{lo n:Nat}(u:Dw r xs lo n)(h1:1<=n)(h:kr r xs (lo+n)<=kr r xs (lo+(n - 1))):Dw r xs lo (n+1):=fun i j a b=>by
 rcases Nat.lt_or_ge j n with q | q
 ·exact u i j a q
 ·have e:j=n:=by omega
  subst e
  rcases Nat.lt_or_ge i j with z | z
  ·exact Int.le_trans h (u i (j - 1) (by omega) (by omega))
  ·have:i=j:=by omega
   subst this;exact Int.le_refl _
theorem Dw.cg {r:Keyed->Int}{xs ys:Array Keyed}{lo n:Nat}(u:Dw r xs lo n)(h:∀k,kr r ys k=kr r xs k):Dw r ys lo n:=fun i j a b=>by rw[h,h];exact u i j a b
section
variable {M:Model}{A:Around}{E:Value->Shared->Prop}{s:Shared}{κ:SortKind}{r:Keyed->Int}{P:Keyed->Prop}{st0:SortSt}
theorem n0u (C:Cm M A E s κ r P)(hk:kindOf st0=κ)(hP:∀x∈(arrOf st0).toList,P x){st:SortSt}{lo i j:Nat}(b:Bs st0 lo st)(hi:i<(arrOf st0).size)(hj:j<(arrOf st0).size){Q:Option Bool->SortSt->Prop}
  (h:Q (some (decide (kr r (arrOf st) i<kr r (arrOf st) j))) st):wpS M A E s (ltAt' i j) Q st:=by
 have zi:i<(arrOf st).size:=by rw[b.sz];exact hi
 have zj:j<(arrOf st).size:=by rw[b.sz];exact hj
 have pp:∀(k:Nat) (z:k<(arrOf st).size),P (arrOf st)[k]:=fun k z=>hP _ ((Array.perm_iff_toList_perm.mp b.pm).mem_iff.mp (by simp))
 rw[ltAt'_eq]
 refine wpS_bind (wpS_get (wpS_bind (b0s (Array.getElem?_eq_getElem zi) (wpS_bind (b0s (Array.getElem?_eq_getElem zj) ?_)))))
 refine C.lt _ _ (pp i zi) (pp j zj) _ _ (by rw[b.eq];exact hk) ?_
 unfold kr at h
 rw[Array.getElem?_eq_getElem zi,Array.getElem?_eq_getElem zj]at h
 exact h
theorem f1u (C:Cm M A E s κ r P)(hk:kindOf st0=κ)(hP:∀x∈(arrOf st0).toList,P x){st:SortSt}{lo n ok:Nat}{Q:Bool->SortSt->Prop}(hn:lo+n<=(arrOf st0).size)(ho:ok<=n)(h1:1<=n)(b:Bs st0 lo st)(u:Up r (arrOf st) lo ok)
  (h:∀st',Bs st0 lo st'->Up r (arrOf st') lo n->Q true st'):wpS M A E s (binarySort' lo n ok) Q st:=by
 rw[binarySort'_eq]
 refine wpS_bind (wpS_mono (wpS_forRange (I:=fun k c st'=>c=(none,())/\Bs st0 lo st'/\Up r (arrOf st') lo k) (Q:=fun c st'=>c=(none,())/\Bs st0 lo st'/\Up r (arrOf st') lo n) ?_ ?_ ⟨rfl,b,?_⟩) ?_)
 ·rintro k c st2 a1 a2 ⟨rfl,b2,u2⟩
  refine wpS_bind (wpS_mono (wpS_forRange (I:=fun x c st3=>st3=st2/\∃p q,c=(none,p,q)/\p<=q/\q<=k/\q - p<=k - x/\(∀i,i<p->kr r (arrOf st2) (lo+i)<=kr r (arrOf st2) (lo+k))/\(∀i,q<=i->i<k->kr r (arrOf st2) (lo+k)<kr r (arrOf st2) (lo+i)))
   (Q:=fun c st3=>st3=st2/\∃p,c=(none,p,p)/\p<=k/\(∀i,i<p->kr r (arrOf st2) (lo+i)<=kr r (arrOf st2) (lo+k))/\(∀i,p<=i->i<k->kr r (arrOf st2) (lo+k)<kr r (arrOf st2) (lo+i))) ?_ ?_ ⟨rfl,0,k,rfl,by omega,by omega,by omega,fun i hi=>by omega,fun i c d=>by omega⟩) ?_)
  ·rintro x c st3 _ hx ⟨rfl,p,q,rfl,e1,e2,e3,e4,e5⟩
   dsimp only
   by_cases g:p>=q
   ·rw[if_pos g]
    have:p=q:=by omega
    subst this
    exact wpS_pure ⟨rfl,p,rfl,e2,e4,e5⟩
   ·rw[if_neg g]
    refine wpS_bind (n0u C hk hP b2 (by omega) (by omega) ?_)
    by_cases z:kr r (arrOf st3) (lo+k)<kr r (arrOf st3) (lo+(p+q) / 2)
    ·simp only[z,decide_true,if_true]
     exact wpS_pure ⟨rfl,p,(p+q) / 2,rfl,by omega,by omega,by omega,e4,fun i c d=>Int.lt_of_lt_of_le z (u2 _ _ c d)⟩
    ·simp only[z,decide_false,Bool.false_eq_true,if_false]
     exact wpS_pure ⟨rfl,(p+q) / 2+1,q,rfl,by omega,by omega,by omega,fun i c=>Int.le_trans (u2 i ((p+q) / 2) (by omega) (by omega)) (by omega),e5⟩
  ·rintro c st3 ⟨rfl,p,q,rfl,e1,e2,e3,e4,e5⟩
   have:p=q:=by omega
   subst this
   exact⟨rfl,p,rfl,e2,e4,e5⟩
  ·rintro c st3 ⟨rfl,p,rfl,e2,e4,e5⟩
   dsimp only
   rw[moveDown'_eq]
   have hks:lo+k<(arrOf st3).size:=by rw[b2.sz];omega
   refine wpS_bind (wpS_modify (wpS_pure ⟨rfl,b2.bub (by omega) (by omega) (by omega),?_⟩))
   intro i j ij hj
   show kr r (bubble (arrOf st3) (lo+k) (lo+k - (lo+p))) (lo+i)<=kr r (bubble (arrOf st3) (lo+k) (lo+k - (lo+p))) (lo+j)
   rw[c1d hks (by omega),c1d hks (by omega)]
   have s1:∀x,lo+x - 1=lo+(x - 1)∨x=0:=fun x=>by omega
   have lt1:∀x,x<p->kr r (arrOf st3) (lo+x)<=kr r (arrOf st3) (lo+k):=e4
   have em:∀x,1<=x->kr r (arrOf st3) (lo+x - 1)=kr r (arrOf st3) (lo+(x - 1)):=fun x hx=>by rw[show lo+x - 1=lo+(x - 1)by omega]
   repeat' split
   all_goals first
    | (exfalso;omega)
    | exact Int.le_refl _
    | exact e4 _ (by omega)
    | (rw[em _ (by omega)];exact Int.le_of_lt (e5 _ (by omega) (by omega)))
    | (rw[em _ (by omega),em _ (by omega)];exact u2 _ _ (by omega) (by omega))
    | (rw[em _ (by omega)];exact u2 _ _ (by omega) (by omega))
    | exact u2 _ _ (by omega) (by omega)
 ·rintro c st2 ⟨hc,b2,u2⟩
  refine⟨hc,b2,fun i j a c=>u2 i j a (by omega)⟩
 ·intro i j a c
  rcases Nat.lt_or_ge j ok with q | q
  ·exact u i j a q
  ·have:i=j:=by omega
   subst this;exact Int.le_refl _
 ·rintro c st2 ⟨rfl,b2,u2⟩
  exact wpS_pure (h _ b2 u2)
def asc (lo a m:Nat):StateT SortSt Sem AscSt :=
 forIn [a:m] ((none,a):AscSt) fun _ c=>do
  let z <- ltAt' (lo+c.2) (lo+c.2 - 1)
  match z with
  | some y=>if y=true then pure (.done (none,c.2))else pure (.yield (none,c.2+1))
  | _=>pure (.done (some none,c.2))
def tl3 (lo n m:Nat):StateT SortSt Sem (Option Nat):=do
 reverseSlice' lo (lo+n)
 let c <- asc lo n m
 match c.1 with
 | some q=>pure q
 | none=>pure (some c.2)
def dsc (lo n m:Nat):StateT SortSt Sem DescSt :=
 forIn [n:m] ((none,n,0):DescSt) fun _ c=>do
  let z <- ltAt' (lo+c.2.1) (lo+c.2.1 - 1)
  match z with
  | some y =>
   if y=true then
    if c.2.2 > 0 then do
     reverseSlice' (lo+c.2.1 - (c.2.2+1)) (lo+c.2.1)
     pure (.yield (none,c.2.1+1,0))
    else pure (.yield (none,c.2.1+1,0))
   else do
    let z <- ltAt' (lo+c.2.1 - 1) (lo+c.2.1)
    match z with
    | some y=>if y=true then pure (.done (none,c.2.1,c.2.2))else pure (.yield (none,c.2.1+1,c.2.2+1))
    | _=>pure (.done (some none,c.2.1,c.2.2))
  | _=>pure (.done (some none,c.2.1,c.2.2))
def dpt (lo n m:Nat):StateT SortSt Sem (Option Nat):=do
 liftM (rule "list.sort.descending-run")
 let c <- dsc lo (n+1) m
 match c.1 with
 | some q=>pure q
 | none =>
  if c.2.2 > 0 then do
   reverseSlice' (lo+c.2.1 - (c.2.2+1)) (lo+c.2.1)
   tl3 lo c.2.1 m
  else tl3 lo c.2.1 m
theorem j1m (lo m:Nat):countRun' lo m=(do
  let c <- asc lo 1 m
  match c.1 with
  | some q=>pure q
  | none =>
   if(c.2==m)=true then pure (some c.2)
   else if c.2 > 1 then do
    let z <- ltAt' lo (lo+c.2 - 1)
    match z with
    | some y=>if y=true then pure (some c.2)else do
      reverseSlice' lo (lo+c.2)
      dpt lo c.2 m
    | _=>pure none
   else dpt lo c.2 m):=by
 rw[countRun'_eq]
 dsimp only
 unfold dpt tl3 dsc asc
 congr 1
 funext c
 obtain⟨q,n⟩:=c
 cases q with
 | some q=>rfl
 | none =>
  dsimp only
  split
  ·rfl
  ·split
   ·congr 1
    funext x
    cases x with
    | none=>rfl
    | some y =>
     dsimp only
     split
     ·rfl
     ·congr 1
      funext _
      congr 1;funext _;congr 1;congr 1;funext c;obtain⟨q,n,k⟩:=c
      cases q with
      | some q=>rfl
      | none =>
       dsimp only
       split
       ·congr 1;funext _;congr 1;funext _;congr 1;funext c;obtain⟨q,n⟩:=c;cases q <;> rfl
       ·congr 1;funext _;congr 1;funext c;obtain⟨q,n⟩:=c;cases q <;> rfl
   ·congr 1;funext _;congr 1;congr 1;funext c;obtain⟨q,n,k⟩:=c
    cases q with
    | some q=>rfl
    | none =>
     dsimp only
     split
     ·congr 1;funext _;congr 1;funext _;congr 1;funext c;obtain⟨q,n⟩:=c;cases q <;> rfl
     ·congr 1;funext _;congr 1;funext c;obtain⟨q,n⟩:=c;cases q <;> rfl
theorem b1k (C:Cm M A E s κ r P)(hk:kindOf st0=κ)(hP:∀x∈(arrOf st0).toList,P x){st:SortSt}{lo a m:Nat}{Q:AscSt->SortSt->Prop}(hm:lo+m<=(arrOf st0).size)(ha:1<=a)(am:a<=m)(b:Bs st0 lo st)(u:Up r (arrOf st) lo a)
  (h:∀n,a<=n->n<=m->Up r (arrOf st) lo n->(n=m∨kr r (arrOf st) (lo+n)<kr r (arrOf st) (lo+n - 1))->Q (none,n) st):wpS M A E s (asc lo a m) Q st:=by
 unfold asc
 refine wpS_forRange (I:=fun x c st'=>st'=st/\c=(none,x)/\Up r (arrOf st) lo x) ?_ ?_ ⟨rfl,rfl,u⟩
 ·rintro x c st2 a1 a2 ⟨rfl,rfl,u2⟩
  dsimp only
  refine wpS_bind (n0u C hk hP b (by omega) (by omega) ?_)
  by_cases z:kr r (arrOf st2) (lo+x)<kr r (arrOf st2) (lo+x - 1)
  ·simp only[z,decide_true,if_true]
   exact wpS_pure (h x a1 (by omega) u2 (.inr z))
  ·simp only[z,decide_false,Bool.false_eq_true,if_false]
   refine wpS_pure ⟨rfl,rfl,u2.more (by omega) ?_⟩
   rw[show lo+(x - 1)=lo+x - 1 by omega];omega
 ·rintro c st2 ⟨rfl,rfl,u2⟩
  rw[show max a m=m by omega]at u2 ⊢
  exact h m am (Nat.le_refl _) u2 (.inl rfl)
theorem b1b (C:Cm M A E s κ r P)(hk:kindOf st0=κ)(hP:∀x∈(arrOf st0).toList,P x){st:SortSt}{lo n m:Nat}{Q:Option Nat->SortSt->Prop}(hm:lo+m<=(arrOf st0).size)(h1:1<=n)(nm:n<=m)(b:Bs st0 lo st)(u:Dw r (arrOf st) lo n)
  (h:∀k st',Bs st0 lo st'->1<=k->k<=m->Up r (arrOf st') lo k->Q (some k) st'):wpS M A E s (tl3 lo n m) Q st:=by
 unfold tl3
 rw[reverseSlice'_eq]
 have b2:=b.mir (i:=lo) (j:=lo+n) (Nat.le_refl _) (by omega)
 refine wpS_bind (wpS_modify (wpS_bind (b1k C hk hP hm h1 nm b2 (fun i j ij hj=>?_) fun k k1 k2 k3 _=>wpS_pure (h k _ b2 (by omega) k2 k3))))
 show kr r (mirror (arrOf st) lo (lo+n) ((lo+n - lo) / 2)) (lo+i)<=kr r (mirror (arrOf st) lo (lo+n) ((lo+n - lo) / 2)) (lo+j)
 have hz:lo+n<=(arrOf st).size:=by rw[b.sz];omega
 rw[w0u hz,w0u hz,if_pos (by omega),if_pos (by omega),show lo+(lo+n) - 1 - (lo+i)=lo+(n - 1 - i)by omega,show lo+(lo+n) - 1 - (lo+j)=lo+(n - 1 - j)by omega]
 exact u _ _ (by omega) (by omega)
theorem f1t (C:Cm M A E s κ r P)(hk:kindOf st0=κ)(hP:∀x∈(arrOf st0).toList,P x){st:SortSt}{lo n m:Nat}{Q:DescSt->SortSt->Prop}(hm:lo+m<=(arrOf st0).size)(h1:1<=n)(nm:n<=m)(b:Bs st0 lo st)(u:Dw r (arrOf st) lo n)
  (h:∀k e st',Bs st0 lo st'->n<=k->k<=m->Dw r (arrOf st') lo k->e+1<=k->(∀i,k - (e+1)<=i->i<k->kr r (arrOf st') (lo+i)=kr r (arrOf st') (lo+k - 1))->Q (none,k,e) st'):wpS M A E s (dsc lo n m) Q st:=by
 unfold dsc
 refine wpS_forRange (I:=fun x c st'=>∃e,c=(none,x,e)/\Bs st0 lo st'/\Dw r (arrOf st') lo x/\e+1<=x/\(∀i,x - (e+1)<=i->i<x->kr r (arrOf st') (lo+i)=kr r (arrOf st') (lo+x - 1))) ?_ ?_ ⟨0,rfl,b,u,by omega,fun i a c=>by congr 1;omega⟩
 ·rintro x c st2 a1 a2 ⟨e,rfl,b2,u2,e1,e2⟩
  dsimp only
  have hz:lo+x<=(arrOf st2).size:=by rw[b2.sz];omega
  refine wpS_bind (n0u C hk hP b2 (by omega) (by omega) ?_)
  have e3:∀k,lo+x - (e+1)<=k->k<lo+x->kr r (arrOf st2) k=kr r (arrOf st2) (lo+x - 1):=fun k p q=>by
   have:=e2 (k - lo) (by omega) (by omega)
   rwa [show lo+(k - lo)=k by omega]at this
  by_cases z:kr r (arrOf st2) (lo+x)<kr r (arrOf st2) (lo+x - 1)
  ·simp only[z,decide_true,if_true]
   have u3:Dw r (arrOf st2) lo (x+1):=u2.more (by omega) (by rw[show lo+(x - 1)=lo+x - 1 by omega];omega)
   by_cases g:e > 0
   ·rw[if_pos g,reverseSlice'_eq]
    exact wpS_bind (wpS_modify (wpS_pure ⟨0,rfl,b2.mir (by omega) (by omega),u3.cg (h0i hz e3),by omega,fun i p q=>by congr 1;omega⟩))
   ·rw[if_neg g]
    exact wpS_pure ⟨0,rfl,b2,u3,by omega,fun i p q=>by congr 1;omega⟩
  ·simp only[z,decide_false,Bool.false_eq_true,if_false]
   refine wpS_bind (n0u C hk hP b2 (by omega) (by omega) ?_)
   by_cases y:kr r (arrOf st2) (lo+x - 1)<kr r (arrOf st2) (lo+x)
   ·simp only[y,decide_true,if_true]
    exact wpS_pure (h x e st2 b2 a1 (by omega) u2 e1 e2)
   ·simp only[y,decide_false,Bool.false_eq_true,if_false]
    refine wpS_pure ⟨e+1,rfl,b2,u2.more (by omega) (by rw[show lo+(x - 1)=lo+x - 1 by omega];omega),by omega,fun i p q=>?_⟩
    rw[show lo+(x+1) - 1=lo+x by omega]
    rcases Nat.lt_or_ge i x with w | w
    ·have:=e2 i (by omega) w
     omega
    ·have:i=x:=by omega
     subst this;rfl
 ·rintro c st2 ⟨e,rfl,b2,u2,e1,e2⟩
  rw[show max n m=m by omega]at u2 e1 e2 ⊢
  exact h m e st2 b2 nm (Nat.le_refl _) u2 e1 e2
theorem b1j (C:Cm M A E s κ r P)(hk:kindOf st0=κ)(hP:∀x∈(arrOf st0).toList,P x){st:SortSt}{lo n m:Nat}{Q:Option Nat->SortSt->Prop}(hm:lo+m<=(arrOf st0).size)(nm:n+1<=m)(b:Bs st0 lo st)(u:Dw r (arrOf st) lo (n+1))
  (h:∀k st',Bs st0 lo st'->1<=k->k<=m->Up r (arrOf st') lo k->Q (some k) st'):wpS M A E s (dpt lo n m) Q st:=by
 unfold dpt
 refine wpS_bind (wpS_lift (wpAny_rule ⟨rfl,?_⟩))
 refine wpS_bind (f1t C hk hP hm (by omega) nm b u fun k e st2 b2 k1 k2 u2 e1 e2=>?_)
 dsimp only
 have hz:lo+k<=(arrOf st2).size:=by rw[b2.sz];omega
 have e3:∀i,lo+k - (e+1)<=i->i<lo+k->kr r (arrOf st2) i=kr r (arrOf st2) (lo+k - 1):=fun i p q=>by
  have:=e2 (i - lo) (by omega) (by omega)
  rwa [show lo+(i - lo)=i by omega]at this
 by_cases g:e > 0
 ·rw[if_pos g,reverseSlice'_eq]
  exact wpS_bind (wpS_modify (b1b C hk hP hm (by omega) k2 (b2.mir (by omega) (by omega)) (u2.cg (h0i hz e3)) h))
 ·rw[if_neg g]
  exact b1b C hk hP hm (by omega) k2 b2 u2 h
theorem i1y (C:Cm M A E s κ r P)(hk:kindOf st0=κ)(hP:∀x∈(arrOf st0).toList,P x){st:SortSt}{lo m:Nat}{Q:Option Nat->SortSt->Prop}(hm:lo+m<=(arrOf st0).size)(h1:1<=m)(b:Bs st0 lo st)
  (h:∀k st',Bs st0 lo st'->1<=k->k<=m->Up r (arrOf st') lo k->Q (some k) st'):wpS M A E s (countRun' lo m) Q st:=by
 rw[j1m]
 refine wpS_bind (b1k C hk hP hm (Nat.le_refl 1) h1 b Up.one fun n n1 n2 u hor=>?_)
 dsimp only
 by_cases g:n=m
 ·rw[if_pos (by simpa using g)]
  exact wpS_pure (h n st b n1 n2 u)
 ·rw[if_neg (by simpa using g)]
  have hlt:=hor.resolve_left g
  have hz:lo+n<=(arrOf st).size:=by rw[b.sz];omega
  by_cases g2:n > 1
  ·rw[if_pos g2]
   refine wpS_bind (n0u C hk hP b (by omega) (by omega) ?_)
   by_cases z:kr r (arrOf st) lo<kr r (arrOf st) (lo+n - 1)
   ·simp only[z,decide_true,if_true]
    exact wpS_pure (h n st b n1 n2 u)
   ·simp only[z,decide_false,Bool.false_eq_true,if_false]
    have all:∀k,lo<=k->k<lo+n->kr r (arrOf st) k=kr r (arrOf st) lo:=fun k p q=>by
     have e1:=u 0 (k - lo) (by omega) (by omega)
     have e2:=u (k - lo) (n - 1) (by omega) (by omega)
     rw[show lo+(k - lo)=k by omega]at e1 e2
     rw[show lo+(n - 1)=lo+n - 1 by omega]at e2
     rw[Nat.add_zero]at e1
     omega
    have d:Dw r (arrOf st) lo n:=fun i j ij hj=>by rw[all _ (by omega) (by omega),all (lo+i) (by omega) (by omega)];exact Int.le_refl _
    rw[reverseSlice'_eq]
    refine wpS_bind (wpS_modify (b1j C hk hP hm (by omega) (b.mir (by omega) (by omega)) ((d.more (by omega) ?_).cg (h0i hz all)) h))
    rw[show lo+(n - 1)=lo+n - 1 by omega];omega
  ·rw[if_neg g2]
   have:n=1:=by omega
   subst this
   refine b1j C hk hP hm (by omega) b (Dw.more (fun i j ij hj=>?_) (by omega) ?_) h
   ·have:i=j:=by omega
    subst this;exact Int.le_refl _
   ·rw[show lo+(1 - 1)=lo+1 - 1 by omega];omega
end
def Pn (r:Keyed->Int):Nat->List (Nat×Nat×Nat)->List (List Keyed)->Prop
 | _,[],[]=>True
 | b,p::ps,X::Xs=>p.1=b/\p.2.1=X.length/\0<X.length/\Srt r X/\Pn r (b+X.length) ps Xs
 | _,_,_=>False
theorem Pn.len {r:Keyed->Int}:∀ {b ps Xs},Pn r b ps Xs->ps.length=Xs.length/\Xs.length<=Xs.flatten.length
 | _,[],[],_=>⟨rfl,Nat.le_refl _⟩
 | _,p::ps,X::Xs,h=>by
  have:=Pn.len h.2.2.2.2
  simp only[List.length_cons,List.flatten_cons,List.length_append]
  have:=h.2.2.1
  omega
 | _,[],_::_,h=>h.elim
 | _,_::_,[],h=>h.elim
theorem Pn.two {r:Keyed->Int}:∀ {i b ps Xs u n w v m w'},Pn r b ps Xs->ps[i]? = some (u,n,w)->ps[i+1]? = some (v,m,w') ->
  ∃A X Y B,Xs=A++X::Y::B/\u=b+A.flatten.length/\n=X.length/\v=u+X.length/\m=Y.length/\Srt r X/\Srt r Y/\0<X.length/\0<Y.length /\
   ∀Z,Srt r Z->Z.length=n+m->Pn r b ((ps.set i (u,n+m,w)).eraseIdx (i+1)) (A++Z::B)
 | 0,b,p::q::ps,X::Y::Xs,u,n,w,v,m,w',h,e1,e2=>by
  obtain⟨a1,a2,a3,a4,c1,c2,c3,c4,c5⟩:=h
  simp only[List.getElem?_cons_zero,List.getElem?_cons_succ,Option.some.injEq]at e1 e2
  subst e1 e2
  dsimp only at a1 a2 c1 c2
  refine⟨[],X,Y,Xs,rfl,by simpa using a1,a2,by omega,c2,a4,c4,a3,c3,fun Z sz lz=>?_⟩
  refine⟨a1,lz.symm,by omega,sz,?_⟩
  rw[lz,a2,c2,<- Nat.add_assoc];exact c5
 | i+1,b,p::ps,X::Xs,u,n,w,v,m,w',h,e1,e2=>by
  obtain⟨a1,a2,a3,a4,a5⟩:=h
  rw[List.getElem?_cons_succ]at e1 e2
  obtain⟨A,X',Y,B,rfl,c2,c3,c4,c5,c6,c7,c8,c9,c10⟩:=Pn.two a5 e1 e2
  refine⟨X::A,X',Y,B,rfl,by rw[List.flatten_cons,List.length_append];omega,c3,c4,c5,c6,c7,c8,c9,fun Z sz lz=>?_⟩
  exact⟨a1,a2,a3,a4,c10 Z sz lz⟩
 | 0,_,[],_,_,_,_,_,_,_,_,e1,_=>by simp at e1
 | _+1,_,[],_,_,_,_,_,_,_,_,e1,_=>by simp at e1
 | 0,_,[_],_,_,_,_,_,_,_,_,_,e2=>by simp at e2
 | 0,_,_::_::_,[],_,_,_,_,_,_,h,_,_=>h.elim
 | 0,_,_::_::_,[_],_,_,_,_,_,_,h,_,_=>h.2.2.2.2.elim
 | _+1,_,_::_,[],_,_,_,_,_,_,h,_,_=>h.elim
theorem Pn.push {r:Keyed->Int}{X:List Keyed}{w:Nat}(hx:0<X.length)(sx:Srt r X):∀ {b ps Xs},Pn r b ps Xs->Pn r b (ps++[(b+Xs.flatten.length,X.length,w)]) (Xs++[X])
 | _,[],[],_=>⟨by simp,rfl,hx,sx,trivial⟩
 | b,p::ps,Y::Xs,h=>by
  have:=Pn.push (w:=w) hx sx h.2.2.2.2
  refine⟨h.1,h.2.1,h.2.2.1,h.2.2.2.1,?_⟩
  rw[List.flatten_cons,List.length_append,<- Nat.add_assoc];exact this
 | _,[],_::_,h=>h.elim
 | _,_::_,[],h=>h.elim
theorem Pn.cg {r:Keyed->Int}:∀ {b ps qs Xs},Pn r b ps Xs->ps.map (fun p=>(p.1,p.2.1))=qs.map (fun p=>(p.1,p.2.1))->Pn r b qs Xs
 | _,[],[],[],_,_=>trivial
 | _,p::ps,q::qs,X::Xs,h,e=>by
  simp only[List.map_cons,List.cons.injEq,Prod.mk.injEq]at e
  exact⟨by rw[<- e.1.1];exact h.1,by rw[<- e.1.2];exact h.2.1,h.2.2.1,h.2.2.2.1,Pn.cg h.2.2.2.2 e.2⟩
 | _,[],_::_,_,_,e=>by simp at e
 | _,_::_,[],_,_,e=>by simp at e
 | _,[],[],_::_,h,_=>h.elim
 | _,_::_,_::_,[],h,_=>h.elim
structure Jr (κ:SortKind)(r:Keyed->Int)(a0:Array Keyed)(lo:Nat)(st:SortSt):Prop where
 kd:kindOf st=κ
 fl:failedOf st=none
 pm:(arrOf st).Perm a0
 rn:∃Xs rest,(arrOf st).toList=Xs.flatten++rest/\Xs.flatten.length=lo/\Pn r 0 (pendingOf st).toList Xs
theorem Jr.le {κ:SortKind}{r:Keyed->Int}{a0:Array Keyed}{lo:Nat}{st:SortSt}(j:Jr κ r a0 lo st):(pendingOf st).size<=lo:=by
 obtain⟨Xs,rest,e,l,p⟩:=j.rn
 have:=p.len
 rw[Array.length_toList]at this
 omega
theorem g1l {r:Keyed->Int}{xs:Array Keyed}{lo n:Nat}{pre Y post:List Keyed}(u:Up r xs lo n)(e:xs.toList=pre++Y++post)(hp:pre.length=lo)(hy:Y.length=n):Srt r Y:=by
 refine List.pairwise_iff_getElem.mpr fun i j hi hj ij=>?_
 have g:∀k (h:k<Y.length),kr r xs (lo+k)=r Y[k]:=fun k h=>by
  subst hp
  obtain⟨q,e1⟩:=h0z e h
  unfold kr
  rw[Array.getElem?_eq_getElem q,e1];rfl
 have:=u i j (by omega) (by omega)
 rw[g i hi,g j hj]at this
 exact this
section
variable {M:Model}{A:Around}{E:Value->Shared->Prop}{s:Shared}{κ:SortKind}{r:Keyed->Int}{P:Keyed->Prop}{a0:Array Keyed}
theorem u0z (C:Cm M A E s κ r P)(hP:∀x∈a0.toList,P x){st:SortSt}{lo i:Nat}(j:Jr κ r a0 lo st)(hi:i+1<(pendingOf st).size){Q:Bool->SortSt->Prop}
  (h:∀st',Jr κ r a0 lo st'->(pendingOf st').size+1=(pendingOf st).size->Q true st'):wpS M A E s (mergeAt' i) Q st:=by
 obtain⟨Xs,rest,e,l,p⟩:=j.rn
 have g1:(pendingOf st)[i]? = some (pendingOf st)[i]:=Array.getElem?_eq_getElem (by omega)
 have g2:(pendingOf st)[i+1]? = some (pendingOf st)[i+1]:=Array.getElem?_eq_getElem hi
 rcases hpi:(pendingOf st)[i]with⟨u,n,w⟩
 rcases hpj:(pendingOf st)[i+1]with⟨v,m,w'⟩
 rw[hpi]at g1;rw[hpj]at g2
 obtain⟨X1,X,Y,X2,rfl,c2,c3,c4,c5,c6,c7,c8,c9,c10⟩:=p.two (i:=i) (by rw[Array.getElem?_toList];exact g1) (by rw[Array.getElem?_toList];exact g2)
 rw[Nat.zero_add]at c2
 refine b1c C (pre:=X1.flatten) (X:=X) (Y:=Y) (post:=X2.flatten++rest) j.kd j.fl g1 g2 ?_ (fun x hx=>hP _ ((Array.perm_iff_toList_perm.mp j.pm).mem_iff.mp hx)) c2 c3 (by omega) c5 c6 c7 c8 c9 fun Z arr g z1 z2 z3=>?_
 ·rw[e];simp
 ·have lz:Z.length=n+m:=by rw[z1.length_eq,List.length_append];omega
  refine h _ ⟨rfl,rfl,?_,X1++Z::X2,rest,by rw[z3];simp,?_,?_⟩ ?_
  ·refine Array.Perm.trans ?_ j.pm
   rw[Array.perm_iff_toList_perm,z3,e]
   simp only[List.flatten_append,List.flatten_cons,List.append_assoc]
   refine List.Perm.append_left _ ?_
   rw[<- List.append_assoc X Y]
   exact List.Perm.append_right _ z1
  ·rw[<- l];simp only[List.flatten_append,List.flatten_cons,List.length_append];omega
  ·have:=c10 Z z2 lz
   show Pn r 0 (((pendingOf st).setIfInBounds i (u,n+m,w)).eraseIdxIfInBounds (i+1)).toList _
   have hs:i+1<((pendingOf st).setIfInBounds i (u,n+m,w)).size:=by simpa using hi
   rw[Array.eraseIdxIfInBounds,dif_pos hs,Array.toList_eraseIdx,Array.toList_setIfInBounds]
   exact this
  ·show(((pendingOf st).setIfInBounds i (u,n+m,w)).eraseIdxIfInBounds (i+1)).size+1=_
   have hs:i+1<((pendingOf st).setIfInBounds i (u,n+m,w)).size:=by simpa using hi
   rw[Array.eraseIdxIfInBounds,dif_pos hs,Array.size_eraseIdx]
   simp;omega
end
section
variable {M:Model}{A:Around}{E:Value->Shared->Prop}{s:Shared}{κ:SortKind}{r:Keyed->Int}{P:Keyed->Prop}{a0:Array Keyed}
theorem z0i {l:List Keyed}{a b:Nat}(h:a+b<=l.length):∃u v w,l=u++v++w/\u.length=a/\v.length=b:=by
 refine⟨l.take a,(l.drop a).take b,(l.drop a).drop b,?_,?_,?_⟩
 ·rw[List.append_assoc,List.take_append_drop,List.take_append_drop]
 ·rw[List.length_take];omega
 ·rw[List.length_take,List.length_drop];omega
theorem Bs.jr {st0 st:SortSt}{lo n:Nat}(j:Jr κ r a0 lo st0)(b:Bs st0 lo st)(u:Up r (arrOf st) lo n)(h1:1<=n)(hn:lo+n<=a0.size) :
  Jr κ r a0 lo st/\∃Xs Y rest,(arrOf st).toList=Xs.flatten++Y++rest/\Xs.flatten.length=lo/\Y.length=n/\Srt r Y/\Pn r 0 (pendingOf st).toList Xs:=by
 obtain⟨Xs,rest,e,l,p⟩:=j.rn
 have sz:(arrOf st0).size=a0.size:=j.pm.size_eq
 have hs:(arrOf st).toList.length=a0.size:=by rw[Array.length_toList,b.sz,sz]
 obtain⟨f,v,w,e1,l1,l2⟩:=z0i (l:=(arrOf st).toList) (a:=lo) (b:=n) (by omega)
 have ef:f=Xs.flatten:=by
  refine List.ext_getElem (by omega) fun i i1 i2=>?_
  have:=b.ah i (by omega)
  rw[<- Array.getElem?_toList,<- Array.getElem?_toList,e1,e,List.append_assoc,List.getElem?_append_left i1,List.getElem?_append_left i2,List.getElem?_eq_getElem i1,List.getElem?_eq_getElem i2]at this
  exact Option.some.inj this
 subst ef
 have pp:Pn r 0 (pendingOf st).toList Xs:=by rw[b.eq];exact p
 refine⟨⟨by rw[b.eq];exact j.kd,by rw[b.eq];exact j.fl,b.pm.trans j.pm,Xs,v++w,by rw[e1,List.append_assoc],l,pp⟩,Xs,v,w,e1,l,l2,g1l u e1 l1 l2,pp⟩
def K7 (κ:SortKind)(r:Keyed->Int)(a0:Array Keyed)(lo:Nat)(Y rest:List Keyed)(st:SortSt):Prop :=
 ∃Xs,kindOf st=κ/\failedOf st=none/\(arrOf st).Perm a0/\(arrOf st).toList=Xs.flatten++Y++rest/\Xs.flatten.length=lo/\Pn r 0 (pendingOf st).toList Xs
theorem n0t (C:Cm M A E s κ r P)(hP:∀x∈a0.toList,P x){st:SortSt}{lo i:Nat}{Y0 rest:List Keyed}(j:K7 κ r a0 lo Y0 rest st)(hi:i+1<(pendingOf st).size){Q:Bool->SortSt->Prop}
  (h:∀st',K7 κ r a0 lo Y0 rest st'->(pendingOf st').size+1=(pendingOf st).size->Q true st'):wpS M A E s (mergeAt' i) Q st:=by
 obtain⟨Xs,jkd,jfl,jpm,e,l,p⟩:=j
 have g1:(pendingOf st)[i]? = some (pendingOf st)[i]:=Array.getElem?_eq_getElem (by omega)
 have g2:(pendingOf st)[i+1]? = some (pendingOf st)[i+1]:=Array.getElem?_eq_getElem hi
 rcases hpi:(pendingOf st)[i]with⟨u,n,w⟩
 rcases hpj:(pendingOf st)[i+1]with⟨v,m,w'⟩
 rw[hpi]at g1;rw[hpj]at g2
 obtain⟨X1,X,Y,X2,rfl,c2,c3,c4,c5,c6,c7,c8,c9,c10⟩:=p.two (i:=i) (by rw[Array.getElem?_toList];exact g1) (by rw[Array.getElem?_toList];exact g2)
 rw[Nat.zero_add]at c2
 refine b1c C (pre:=X1.flatten) (X:=X) (Y:=Y) (post:=X2.flatten++Y0++rest) jkd jfl g1 g2 ?_ (fun x hx=>hP _ ((Array.perm_iff_toList_perm.mp jpm).mem_iff.mp hx)) c2 c3 (by omega) c5 c6 c7 c8 c9 fun Z arr g z1 z2 z3=>?_
 ·rw[e];simp
 ·have lz:Z.length=n+m:=by rw[z1.length_eq,List.length_append];omega
  refine h _ ⟨X1++Z::X2,rfl,rfl,?_,by rw[z3];simp,?_,?_⟩ ?_
  ·refine Array.Perm.trans ?_ jpm
   rw[Array.perm_iff_toList_perm,z3,e]
   simp only[List.flatten_append,List.flatten_cons,List.append_assoc]
   refine List.Perm.append_left _ ?_
   rw[<- List.append_assoc X Y]
   exact List.Perm.append_right _ z1
  ·rw[<- l];simp only[List.flatten_append,List.flatten_cons,List.length_append];omega
  ·have:=c10 Z z2 lz
   show Pn r 0 (((pendingOf st).setIfInBounds i (u,n+m,w)).eraseIdxIfInBounds (i+1)).toList _
   have hs:i+1<((pendingOf st).setIfInBounds i (u,n+m,w)).size:=by simpa using hi
   rw[Array.eraseIdxIfInBounds,dif_pos hs,Array.toList_eraseIdx,Array.toList_setIfInBounds]
   exact this
  ·show(((pendingOf st).setIfInBounds i (u,n+m,w)).eraseIdxIfInBounds (i+1)).size+1=_
   have hs:i+1<((pendingOf st).setIfInBounds i (u,n+m,w)).size:=by simpa using hi
   rw[Array.eraseIdxIfInBounds,dif_pos hs,Array.size_eraseIdx]
   simp;omega
theorem h0g (f:Nat×Nat×Nat->Nat×Nat×Nat):∀(l:List (Nat×Nat×Nat)) (i:Nat),(∀x,((f x).1,(f x).2.1)=(x.1,x.2.1))->(l.modify i f).map (fun p=>(p.1,p.2.1))=l.map (fun p=>(p.1,p.2.1))
 | [],i,_=>by simp
 | x::l,0,h=>by simp[List.modify_zero_cons] ;have:=h x;simpa using this
 | x::l,i+1,h=>by rw[List.modify_succ_cons,List.map_cons,List.map_cons,h0g f l i h]
theorem t0m (C:Cm M A E s κ r P){st:SortSt}{Q:Unit->SortSt->Prop}(hP:∀x∈(arrOf st).toList,P x)(hk:kindOf st=κ)(hf:failedOf st=none)(hp:pendingOf st = #[])
  (h:∀st',(arrOf st').toList.Perm (arrOf st).toList->failedOf st'=none->Srt r (arrOf st').toList->Q () st'):wpS M A E s sortRuns' Q st:=by
 rw[sortRuns'_eq]
 refine wpS_bind (wpS_get ?_)
 dsimp only
 generalize hz:(arrOf st).size=z
 generalize minRun' z z 0=mr
 have j0:Jr κ r (arrOf st) 0 st:=⟨hk,hf,Array.Perm.refl _,[],(arrOf st).toList,rfl,rfl,by rw[hp];trivial⟩
 refine wpS_bind (wpS_mono (wpS_forRange (I:=fun x c st'=>∃lo,c=(none,lo)/\x<=lo/\lo<=z/\Jr κ r (arrOf st) lo st')
  (Q:=fun c st'=>c=(none,z)/\Jr κ r (arrOf st) z st') ?_ ?_ ⟨0,rfl,Nat.le_refl _,Nat.zero_le _,j0⟩) ?_)
 ·rintro x c st2 _ hx ⟨lo,rfl,a1,a2,j⟩
  dsimp only
  by_cases g:lo>=z
  ·rw[if_pos g]
   have:lo=z:=by omega
   subst this
   exact wpS_pure ⟨rfl,j⟩
  rw[if_neg g]
  have sz:(arrOf st2).size=z:=by rw[j.pm.size_eq,hz]
  have hP2:∀x∈(arrOf st2).toList,P x:=fun x hx=>hP _ ((Array.perm_iff_toList_perm.mp j.pm).mem_iff.mp hx)
  refine wpS_bind (i1y C j.kd hP2 (by omega) (by omega) (Bs.start st2 lo) fun n st3 b3 h1 hn u3=>?_)
  dsimp only
  have hn:lo+n<=z:=by omega
  by_cases g2:n<mr
  ·rw[if_pos g2]
   refine wpS_bind (wpS_lift (wpAny_rule ⟨rfl,?_⟩))
   refine wpS_bind (f1u C j.kd hP2 (by omega) (by omega) (by omega) b3 u3 fun st3 b3 u3=>?_)
   simp only[Bool.not_true,Bool.false_eq_true,if_false]
   have h1:1<=min (z - lo) mr:=by omega
   have hn:lo+min (z - lo) mr<=z:=by omega
   generalize min (z - lo) mr=n at u3 h1 hn ⊢
   obtain⟨j3,Xs,Y,rest,e,l,ly,sy,p⟩:=b3.jr j u3 h1 (by omega)
   refine wpS_bind (wpS_get ?_)
   have fin:∀(st4:SortSt),(∃Xs,kindOf st4=κ/\failedOf st4=none/\(arrOf st4).Perm (arrOf st)/\(arrOf st4).toList=Xs.flatten++Y++rest/\Xs.flatten.length=lo/\Pn r 0 (pendingOf st4).toList Xs) ->
     Jr κ r (arrOf st) (lo+n) (setPending st4 ((pendingOf st4).push (lo,n,0))):=by
    rintro st4 ⟨Xs,k1,k2,k3,k4,k5,k6⟩
    refine⟨k1,k2,k3,Xs++[Y],rest,by show(arrOf st4).toList=_;rw[k4];simp,by rw[List.flatten_append,List.length_append,k5];simp[ly],?_⟩
    show Pn r 0 ((pendingOf st4).push (lo,n,0)).toList (Xs++[Y])
    rw[Array.toList_push]
    have:=k6.push (w:=0) (X:=Y) (by omega) sy
    rw[Nat.zero_add,k5,ly]at this
    exact this
   cases hb:(pendingOf st3).back? with
   | none =>
    dsimp only
    exact wpS_bind (wpS_modify (wpS_pure ⟨lo+n,rfl,by omega,hn,fin st3 ⟨Xs,j3.kd,j3.fl,j3.pm,e,l,p⟩⟩))
   | some q =>
    obtain⟨s1,n1,w1⟩:=q
    dsimp only
    generalize power' z (2*s1+n1) (2*s1+n1+n1+n) z=pw
    refine wpS_bind (wpS_mono (wpS_forRange (I:=fun _ c st'=>c=(none,())/\K7 κ r (arrOf st) lo Y rest st') (Q:=fun c st'=>c=(none,())/\K7 κ r (arrOf st) lo Y rest st') ?_ (fun _ _ q=>q) ⟨rfl,Xs,j3.kd,j3.fl,j3.pm,e,l,p⟩) ?_)
    ·rintro y c st5 _ _ ⟨rfl,k7⟩
     refine wpS_bind (wpS_get ?_)
     split
     ·rename_i o1 o2 older ho
      split
      ·exact wpS_pure ⟨rfl,k7⟩
      ·have hs:(pendingOf st5).size > 1:=by
        by_cases g9:(pendingOf st5).size > 1
        ·exact g9
        ·rw[if_neg g9]at ho;cases ho
       refine wpS_bind (n0t C hP k7 (by omega) fun st6 k8 _=>?_)
       simp only[Bool.not_true,Bool.false_eq_true,if_false]
       exact wpS_pure ⟨rfl,k8⟩
     ·exact wpS_pure ⟨rfl,k7⟩
    ·rintro c st5 ⟨rfl,Ys,k1,k2,k3,k4,k5,k6⟩
     dsimp only
     refine wpS_bind (wpS_modify (wpS_bind (wpS_modify (wpS_pure ⟨lo+n,rfl,by omega,hn,?_⟩))))
     refine fin (setPending st5 _) ⟨Ys,k1,k2,k3,k4,k5,k6.cg ?_⟩
     show _=List.map _ ((pendingOf st5).modify _ _).toList
     rw[Array.toList_modify]
     exact(h0g (fun x=>(x.1,x.2.1,pw)) _ _ fun x=>rfl).symm
  ·rw[if_neg g2]
   obtain⟨j3,Xs,Y,rest,e,l,ly,sy,p⟩:=b3.jr j u3 h1 (by omega)
   refine wpS_bind (wpS_get ?_)
   have fin:∀(st4:SortSt),(∃Xs,kindOf st4=κ/\failedOf st4=none/\(arrOf st4).Perm (arrOf st)/\(arrOf st4).toList=Xs.flatten++Y++rest/\Xs.flatten.length=lo/\Pn r 0 (pendingOf st4).toList Xs) ->
     Jr κ r (arrOf st) (lo+n) (setPending st4 ((pendingOf st4).push (lo,n,0))):=by
    rintro st4 ⟨Xs,k1,k2,k3,k4,k5,k6⟩
    refine⟨k1,k2,k3,Xs++[Y],rest,by show(arrOf st4).toList=_;rw[k4];simp,by rw[List.flatten_append,List.length_append,k5];simp[ly],?_⟩
    show Pn r 0 ((pendingOf st4).push (lo,n,0)).toList (Xs++[Y])
    rw[Array.toList_push]
    have:=k6.push (w:=0) (X:=Y) (by omega) sy
    rw[Nat.zero_add,k5,ly]at this
    exact this
   cases hb:(pendingOf st3).back? with
   | none =>
    dsimp only
    exact wpS_bind (wpS_modify (wpS_pure ⟨lo+n,rfl,by omega,hn,fin st3 ⟨Xs,j3.kd,j3.fl,j3.pm,e,l,p⟩⟩))
   | some q =>
    obtain⟨s1,n1,w1⟩:=q
    dsimp only
    generalize power' z (2*s1+n1) (2*s1+n1+n1+n) z=pw
    refine wpS_bind (wpS_mono (wpS_forRange (I:=fun _ c st'=>c=(none,())/\K7 κ r (arrOf st) lo Y rest st') (Q:=fun c st'=>c=(none,())/\K7 κ r (arrOf st) lo Y rest st') ?_ (fun _ _ q=>q) ⟨rfl,Xs,j3.kd,j3.fl,j3.pm,e,l,p⟩) ?_)
    ·rintro y c st5 _ _ ⟨rfl,k7⟩
     refine wpS_bind (wpS_get ?_)
     split
     ·rename_i o1 o2 older ho
      split
      ·exact wpS_pure ⟨rfl,k7⟩
      ·have hs:(pendingOf st5).size > 1:=by
        by_cases g9:(pendingOf st5).size > 1
        ·exact g9
        ·rw[if_neg g9]at ho;cases ho
       refine wpS_bind (n0t C hP k7 (by omega) fun st6 k8 _=>?_)
       simp only[Bool.not_true,Bool.false_eq_true,if_false]
       exact wpS_pure ⟨rfl,k8⟩
     ·exact wpS_pure ⟨rfl,k7⟩
    ·rintro c st5 ⟨rfl,Ys,k1,k2,k3,k4,k5,k6⟩
     dsimp only
     refine wpS_bind (wpS_modify (wpS_bind (wpS_modify (wpS_pure ⟨lo+n,rfl,by omega,hn,?_⟩))))
     refine fin (setPending st5 _) ⟨Ys,k1,k2,k3,k4,k5,k6.cg ?_⟩
     show _=List.map _ ((pendingOf st5).modify _ _).toList
     rw[Array.toList_modify]
     exact(h0g (fun x=>(x.1,x.2.1,pw)) _ _ fun x=>rfl).symm
 ·rintro c st2 ⟨lo,rfl,a1,a2,j⟩
  have:lo=z:=by omega
  subst this
  exact⟨rfl,j⟩
 ·rintro c st2 ⟨rfl,j⟩
  dsimp only
  refine wpS_bind (wpS_mono (wpS_forRange (I:=fun x c st'=>c=(none,())/\Jr κ r (arrOf st) z st'/\(pendingOf st').size<=max 1 (z - x)) (Q:=fun c st'=>c=(none,())/\Jr κ r (arrOf st) z st'/\(pendingOf st').size<=1) ?_ ?_ ⟨rfl,j,by have:=j.le;omega⟩) ?_)
  ·rintro x c st3 _ hx ⟨rfl,j3,k3⟩
   refine wpS_bind (wpS_get ?_)
   by_cases g:(pendingOf st3).size<=1
   ·rw[if_pos g];exact wpS_pure ⟨rfl,j3,g⟩
   rw[if_neg g]
   refine wpS_bind (u0z C hP j3 ?_ fun st4 j4 k4=>?_)
   ·have two:∀(q:Prop) [Decidable q] (m:Nat),(if q then m - 1 else m)<=m:=fun q _ m=>by split <;> omega
    exact Nat.lt_of_le_of_lt (Nat.succ_le_succ (two _ _)) (by omega)
   ·simp only[Bool.not_true,Bool.false_eq_true,if_false]
    exact wpS_pure ⟨rfl,j4,by omega⟩
  ·rintro c st3 ⟨rfl,j3,k3⟩
   exact⟨rfl,j3,by omega⟩
  ·rintro c st3 ⟨rfl,j3,k3⟩
   refine wpS_pure (h st3 (Array.perm_iff_toList_perm.mp j3.pm) j3.fl ?_)
   obtain⟨Xs,rest,e,l,p⟩:=j3.rn
   have hl:=p.len
   have hr:rest=[]:=by
    have:(arrOf st3).toList.length=z:=by rw[Array.length_toList,j3.pm.size_eq,hz]
    rw[e,List.length_append,l]at this
    exact List.length_eq_zero_iff.mp (by omega)
   subst hr
   rw[Array.length_toList]at hl
   rw[e,List.append_nil]
   match hps:(pendingOf st3).toList,Xs,p with
   | _,[],_=>exact List.Pairwise.nil
   | q::qs,[X],p=>rw[List.flatten_cons,List.flatten_nil,List.append_nil];exact p.2.2.2.1
   | _,_::_::_,p=>simp at hl;omega
end
section
variable {prog:Program}{w:World}{A:Around}{E:Value->Shared->Prop}{s:Shared}{κ:SortKind}{r:Keyed->Int}{P:Keyed->Prop}
theorem z0j {a:Addr}{vs:List Value}{n:Nat}{R:Fin->Shared->Prop}(ho:s.heap.get? a=some (seqObj "list" vs.toArray n))(hl:vs.length<=16777216)
  (hP:∀v∈vs,P (v,v))
  (hk:∀h':Heap,(∀b o,b≠a->s.heap.get? b=some o->h'.get? b=some o)->∀Q:SortKind->Shared->Prop,Q κ {s with heap:=h'}->2<=vs.length->wpAny (model prog w) A (keyKind' vs.toArray) Q E {s with heap:=h'})
  (hC:∀h':Heap,(∀b o,b≠a->s.heap.get? b=some o->h'.get? b=some o)->Cm (model prog w) A E {s with heap:=h'} κ r P)
  (h:∀ks:List Keyed,ks.Perm (vs.map fun v=>(v,v))->Srt r ks->R (.done (.ret .none)) {s with heap:=sortedHeap s.heap a vs (ks.map (·.2)).toArray}) :
  wpAny (model prog w) A (Builtin.«list.sort» ⟨[.ref a],[]⟩) R E s:=by
 rw[list_sort_plain]
 have la:a<s.heap.objs.size:=Heap.lt_size ho
 have hz:vs.toArray.size=vs.length:=by simp
 have zp:vs.toArray.zip vs.toArray=(vs.map fun v=>(v,v)).toArray:=by
  apply Array.toList_inj.mp
  simp
  clear ho hl hP hk hC h hz
  induction vs with
  | nil=>rfl
  | cons v vs ih=>simp[ih]
 obtain⟨e1,o1⟩:∃e1,(s.heap.update a (Obj.mapSeq fun _=>#[])).get? a=some (seqObj "list" #[] e1):=⟨_,get?_update_seq ho (fun _=>#[])⟩
 refine wpAny_bind (listItems_at ho rfl (wpAny_bind (listUpdate_at ho rfl ?_ (hsz:=by rw[hz,sizeLine_eq];exact hl))))
 refine wpAny_bind (seqEpoch_at o1 rfl (wpAny_bind (wpAny_newTuple (wpAny_bind (wpAny_newList (wpAny_holding ?_))) (by rw[sizeLine_eq];simpa using hl))))
 generalize hh:((s.heap.update a (Obj.mapSeq fun _=>#[])).push (seqObj "tuple" vs.toArray 0)).push (seqObj "list" #[] 0)=h6
 have o6:h6.get? a=some (seqObj "list" #[] e1):=by
  subst hh
  rw[Heap.get?_push_ne _ _ _ (by rw[size_push',Heap.size_update];exact Nat.ne_of_lt (Nat.lt_succ_of_lt la)),Heap.get?_push_ne _ _ _ (by rw[Heap.size_update];exact Nat.ne_of_lt la),o1]
 have kp:∀b o,b≠a->s.heap.get? b=some o->h6.get? b=some o:=fun b o hb q=>by
  have lb:=Heap.lt_size q
  subst hh
  rw[Heap.get?_push_ne _ _ _ (by rw[size_push',Heap.size_update];exact Nat.ne_of_lt (Nat.lt_succ_of_lt lb)),Heap.get?_push_ne _ _ _ (by rw[Heap.size_update];exact Nat.ne_of_lt lb),Heap.get?_update_ne _ _ _ _ hb,q]
 have hf:∀out:Array Value,h6.update a (Obj.mapSeq fun _=>out)=sortedHeap s.heap a vs out:=fun out=>by subst hh;rfl
 refine(show wpAny (model prog w) A _ R E {s with heap:=h6}from ?_)
 dsimp only
 rw[zp]
 by_cases g:vs.toArray.size<2
 ·rw[if_pos g,if_pos g]
  refine wpAny_bind (wpAny_pure ?_)
  rw[StateT.run_pure]
  refine wpAny_bind (wpAny_pure (wpAny_bind (seqEpoch_at o6 rfl (wpAny_bind (listUpdate_at o6 rfl ?_ (hsz2:=?_))))))
  ·simp only[bne_self_eq_false,Bool.false_eq_true,if_false]
   have:=h (vs.map fun v=>(v,v)) (List.Perm.refl _) (by
    match vs,g with
    | [],_=>exact List.Pairwise.nil
    | [v],_=>exact List.pairwise_singleton _ _
    | _::_::_,g=>simp at g;omega)
   rw[<- hf]at this
   refine wpAny_pure ?_
   rw[List.map_toArray]
   exact this
  ·rw[Array.size_map,sizeLine_eq]
   show(vs.map fun v=>(v,v)).toArray.size<=_
   simp;omega
 ·rw[if_neg g,if_neg g]
  refine wpAny_bind (hk h6 kp _ ?_ (by omega))
  refine wpAny_bind (wpAny_mono (t0m (hC h6 kp) (st:=SortSt.mk' κ (vs.map fun v=>(v,v)).toArray #[] 7 none) (Q:=fun _ st'=>(arrOf st').toList.Perm (vs.map fun v=>(v,v))/\failedOf st'=none/\Srt r (arrOf st').toList)
   (fun x hx=>?_) rfl rfl rfl fun st' a1 a2 a3=>⟨a1,a2,a3⟩) ?_ fun _ _ e=>e)
  ·obtain⟨v,hv,rfl⟩:=List.mem_map.mp (show x∈vs.map fun v=>(v,v)by simpa using hx)
   exact hP v hv
  ·rintro⟨⟨⟩,st'⟩ s' ⟨rfl,p1,p2,p3⟩
   have lz:(arrOf st').size=vs.length:=by rw[<- Array.length_toList,p1.length_eq,List.length_map]
   refine wpAny_bind (seqEpoch_at o6 rfl (wpAny_bind (listUpdate_at o6 rfl ?_ (hsz2:=?_))))
   ·rw[p2]
    simp only[bne_self_eq_false,Bool.false_eq_true,if_false]
    have:=h _ p1 p3
    rw[<- hf]at this
    refine wpAny_pure ?_
    have e:(arrOf st').map (·.2)=(List.map (·.2) (arrOf st').toList).toArray:=by
     apply Array.toList_inj.mp;simp
    rw[e];exact this
   ·rw[Array.size_map,sizeLine_eq,lz];omega
end
section
variable {prog:Program}{w:World}{A:Around}{E:Value->Shared->Prop}{s:Shared}
theorem f1o {κ:SortKind}{M:Model}{x y:Keyed}{b:Bool}(hk:∀(E':Value->Shared->Prop) (Q:Bool->Shared->Prop),Q b s->wpAny M A (keyLt' κ x.1 y.1) Q E' s){st:SortSt}{Q:Option Bool->SortSt->Prop}(e:kindOf st=κ)(h:Q (some b) st):wpS M A E s (lt' x y) Q st:=by
 rw[lt'_eq]
 refine wpS_bind (wpS_get ?_)
 rw[e]
 refine wpS_bind (wpS_lift (wpAny_attempt (hk _ _ ?_)))
 exact⟨rfl,wpS_pure h⟩
end
def Fly (od:Option Addr)(h:Heap)(e C T:Addr):Prop :=
 ∃oe vs oT ts,h.get? e=some oe/\oe.cls = .ref C/\oe.dict=od/\oe.data = .fields vs/\vs[1]? = some (.ref T)/\T≠e/\h.get? T=some oT/\oT.data = .fields ts/\ts[3]? = some .none
structure Gone (fs:List Addr)(h h':Heap)(e:Addr)(hv:Value):Prop where
 keep:∀b o,h.get? b=some o->b≠e->hv ≠ .ref b->b∉fs->h'.get? b=some o
 slot:∀b o,h.get? b=some o->b≠e->hv ≠ .ref b->∃sl,h'.get? b=some {o with slots:=sl}
section
variable {M:Model}{A:Around}{E:Value->Shared->Prop}{s:Shared}{base:Heap}{env:Env}{outer:List Env}{L e C:Addr}{oe:Obj}{vs:Array Value}{od:Option Addr}
theorem s0o {hd:Value}{had:Bool}{Q:Unit->Shared->Prop}(fr:A.frames=some (env::outer))(ff:s.heap.FunFrames base (env::outer))(lf:env.frame=some L)
  (ge:s.heap.get? e=some oe) (gc:oe.cls = .ref C) (gd:oe.dict=od) (gf:oe.data = .fields vs) (gz:1<vs.size)
  (fin:∀h' T,s.heap.objs.size<=T->Fly od h' e C T->(∀b o,s.heap.get? b=some o->b≠e->b∉frs (env::outer)->h'.get? b=some o)->(∀b o,s.heap.get? b=some o->b≠e->∃sl,h'.get? b=some {o with slots:=sl})->Q () {s with heap:=h'}) :
  wpAny M A (do let a <- frameOf env;let pl <- entryPlaceOf L had;let b <- EntryCells.newEntry hd a .none (rawInt L) .none pl;setField (.ref e) 1 b) (fun _ s'=>wpAny M A (setFlight (.ref e) none) Q E s') E s:=by
 have off:e∉frs (env::outer):=fun q=>by
  obtain⟨_,o,go,no⟩:=ff.mem q
  cases ge.symm.trans go
  exact no vs gf
 refine wpAny_bind (wpAny_frameOf_fun fr ff lf fun ha sa=>wpAny_bind (wpAny_entryPlaceOf fun pl ip=>?_))
 unfold EntryCells.newEntry newFields
 refine wpAny_bind (wpAny_newObj_type ?_ (ip.sizeOk5 _ _ _ _ _))
 have ge1:ha.get? e=some oe:=(sa.2.1 e off).trans ge
 have sz:ha.objs.size=s.heap.objs.size:=sa.1
 generalize hT:([hd,Value.ref L,.none,rawInt L,.none]++(if pl.isEmpty then List.replicate 6 Value.none else pl)).toArray=tv
 have tz:3<tv.size:=by rw[<- hT,List.size_toArray,List.length_append];simp only[List.length_cons,List.length_nil];omega
 have neT:e≠ha.objs.size:=Nat.ne_of_lt (Heap.lt_size ge1)
 refine wpAny_setField (Heap.get?_push_of_some _ ge1) gf gz ?_
 generalize hp:ha.push {cls:=.type "traceback",dict:=none,data:=.fields tv}=hb
 have gT:hb.get? ha.objs.size=some {cls:=.type "traceback",dict:=none,data:=.fields tv}:=by rw[<- hp];exact Heap.get?_push_size _ rfl
 have kb:∀b o,ha.get? b=some o->hb.get? b=some o:=fun b o q=>by rw[<- hp];exact Heap.get?_push_of_some _ q
 have w1:=Obj.data_mapFields gf fun a=>a.setIfInBounds 1 (.ref ha.objs.size)
 have g3:=Heap.get?_update_self (Obj.mapFields fun a=>a.setIfInBounds 1 (.ref ha.objs.size)) (kb e oe ge1) (Obj.isFreed_of_fields w1)
 have gT3:=(Heap.get?_update_other hb (Obj.mapFields fun a=>a.setIfInBounds 1 (.ref ha.objs.size)) neT).trans gT
 unfold setFlight
 refine wpAny_bind (wpAny_field g3 w1 (x:=.ref ha.objs.size) (by simp[gz]) ?_)
 rw[if_pos (by simp:(Value.ref ha.objs.size != Value.none)=true)]
 refine wpAny_setField gT3 rfl tz ?_
 have on:∀b o,b≠e->ha.get? b=some o->((hb.update e (Obj.mapFields fun a=>a.setIfInBounds 1 (.ref ha.objs.size))).update ha.objs.size (Obj.mapFields fun a=>a.setIfInBounds 3 ((none:Option Addr).elim Value.none fun f=>rawInt f))).get? b=some o:=fun b o ne q=>by
  rw[Heap.get?_update_other _ _ (Nat.ne_of_gt (Heap.lt_size q)),Heap.get?_update_other _ _ (Ne.symm ne)]
  exact kb b o q
 refine fin _ ha.objs.size (by rw[sz];exact Nat.le_refl _) ⟨_,_,_,_,(Heap.get?_update_other _ _ neT.symm).trans g3,(Obj.cls_mapFields _ _).trans gc,?_,w1,by simp[gz],neT.symm,Heap.get?_update_self _ gT3 (Obj.isFreed_of_fields (Obj.data_mapFields rfl _)),Obj.data_mapFields rfl _,by simp[tz]⟩ (fun b o q ne nf=>on b o ne ((sa.2.1 b nf).trans q)) fun b o q ne=>?_
 ·obtain⟨oc,od,oda,osl⟩:=oe
  cases gf
  exact gd
 ·obtain⟨sl,q'⟩:=sa.2.2 b o q
  exact⟨sl,on b _ ne q'⟩
theorem lv {hv:Value}{Q:Unit->Shared->Prop}(fr:A.frames=some (env::outer))(ff:s.heap.FunFrames base (env::outer))(lf:env.frame=some L)
  (ge:s.heap.get? e=some oe) (gc:oe.cls = .ref C) (gd:oe.dict=od) (gf:oe.data = .fields vs) (g1:vs[1]? = some hv)
  (hh:hv = .none ∨ ∃T oT ts,hv = .ref T/\T≠e/\s.heap.get? T=some oT/\oT.data = .fields ts/\ts[3]? = some .none)
  (fin:∀h' T,s.heap.objs.size<=T->Fly od h' e C T->Gone (frs (env::outer)) s.heap h' e hv->Q () {s with heap:=h'}) :
  wpAny M A (noteFrame (.ref e) env) (fun _ s'=>wpAny M A (setFlight (.ref e) none) Q E s') E s:=by
 have gz:=(Array.getElem?_eq_some_iff.mp g1).1
 unfold noteFrame
 simp only[lf]
 refine wpAny_bind (wpAny_field ge gf g1 ?_)
 rcases hh with rfl | ⟨T,oT,ts,rfl,nT,gT,fT,t3⟩
 ·rw[if_neg (by decide)]
  exact s0o fr ff lf ge gc gd gf gz fun h' T' q1 q2 q3 q4=>fin h' T' q1 q2 ⟨fun b o a1 a2 _ a4=>q3 b o a1 a2 a4,fun b o a1 a2 _=>q4 b o a1 a2⟩
 ·rw[if_pos (by simp:(Value.ref T != Value.none)=true)]
  refine wpAny_bind (wpAny_field gT fT t3 ?_)
  rw[if_neg (by simp[rawInt]:¬(Value.none==rawInt L)=true)]
  refine wpAny_bind (wpAny_setField gT fT (Array.getElem?_eq_some_iff.mp t3).1 ?_)
  have ot:∀b,b≠T->(s.heap.update T (Obj.mapFields fun a=>a.setIfInBounds 3 Value.none)).get? b=s.heap.get? b:=fun b q=>Heap.get?_update_other _ _ (Ne.symm q)
  have gT':=Heap.get?_update_self (Obj.mapFields fun a=>a.setIfInBounds 3 Value.none) gT (Obj.isFreed_of_fields (Obj.data_mapFields fT _))
  have nr:∀b o,s.heap.get? b=some o->(∀us,o.data ≠ .fields us)->b≠T:=fun b o q nf z=>by
   subst z
   cases gT.symm.trans q
   exact nf ts fT
  refine s0o fr (ff.of_keeps fun b o q nf=>⟨o,(ot b (nr b o q nf)).trans q,rfl⟩) lf ((ot e nT.symm).trans ge) gc gd gf gz fun h' T' q1 q2 q3 q4=>fin h' T' ?_ q2 ⟨fun b o a1 a2 a3 a4=>q3 b o ((ot b fun z=>a3 (by rw[z])).trans a1) a2 a4,fun b o a1 a2 a3=>q4 b o ((ot b fun z=>a3 (by rw[z])).trans a1) a2⟩
  rwa [Heap.size_update]at q1
end
def Hot (od:Option Addr)(h0 h:Heap)(H:Hp)(e C:Addr):Prop :=
 ∃oe vs hv,h.get? e=some oe/\oe.cls = .ref C/\oe.dict=od/\oe.data = .fields vs/\vs[1]? = some hv/\h0.get? e=none/\H e=none /\
  (hv = .none ∨ ∃T oT ts,hv = .ref T/\T≠e/\h.get? T=some oT/\oT.data = .fields ts/\ts[3]? = some .none/\h0.get? T=none/\H T=none)
section
variable {X:Cx}{pins:List (Addr×Obj)}{σ:St}{H:Hp}{s:Shared}{h0:Heap}{e C:Addr}{od:Option Addr}
theorem lvI {E:Value->Shared->Prop}{Q:Unit->Shared->Prop}(I:Inv X pins σ H s)(hs:X.stack=X.env::X.outer)(hf:X.env.frame=some X.env.locals)(hsub:∀b o,h0.get? b=some o->b<s.heap.objs.size)(hot:Hot od h0 s.heap H e C)
  (fin:∀h' ch,(∀b∈ch,h0.get? b=none/\H b=none)->e∈ch->Un (frs X.stack) ch H H s.heap h'->HOk X.prog X.w H h'->Hot od h0 h' H e C->Q () {s with heap:=h'}) :
  wpAny (model X.prog X.w) X.A (noteFrame (.ref e) X.env) (fun _ s'=>wpAny (model X.prog X.w) X.A (setFlight (.ref e) none) Q E s') E s:=by
 obtain⟨oe,vs,hv,ge,gc,gd,gf,g1,ye,ue,hh⟩:=hot
 have hh':hv = .none ∨ ∃T oT ts,hv = .ref T/\T≠e/\s.heap.get? T=some oT/\oT.data = .fields ts/\ts[3]? = some .none:=by
  rcases hh with q | ⟨T,oT,ts,q1,q2,q3,q4,q5,_⟩
  ·exact .inl q
  ·exact .inr ⟨T,oT,ts,q1,q2,q3,q4,q5⟩
 refine lv (hs▸I.ok.frames) (hs▸I.stack) hf ge gc gd gf g1 hh' fun h' T q1 ⟨oe',vs',oT',ts',f1,f2,f3,f4,f5,f6,f7,f8,f9⟩ g=>?_
 have hch:∀b∈e::(match hv with | .ref T=>[T] | _=>[]),h0.get? b=none/\H b=none:=fun b hb=>by
  rcases List.mem_cons.mp hb with rfl | hb
  ·exact⟨ye,ue⟩
  ·rcases hh with rfl | ⟨T,oT,ts,rfl,_,_,_,_,y,u⟩
   ·cases hb
   ·rw[List.mem_singleton.mp hb];exact⟨y,u⟩
 have nch:∀b,b∉e::(match hv with | .ref T=>[T] | _=>[])->b≠e/\hv ≠ .ref b:=fun b hb=>⟨fun z=>hb (z ▸ .head _),fun z=>hb (by subst z;exact .tail _ (.head _))⟩
 have there:∀b o,s.heap.get? b=some o->∃o',h'.get? b=some o'∨b=e∨hv = .ref b:=fun b o q=>by
  by_cases z1:b=e
  ·exact⟨o,.inr (.inl z1)⟩
  ·by_cases z2:hv = .ref b
   ·exact⟨o,.inr (.inr z2)⟩
   ·obtain⟨sl,q'⟩:=g.slot b o q z1 z2
    exact⟨_,.inl q'⟩
 refine fin h' _ hch (.head _) ⟨fun b o q n nf nx=>g.keep b o q (nch b nx).1 (nch b nx).2 (by rw[<- hs];exact nf),fun b o q n _ nx=>g.slot b o q (nch b nx).1 (nch b nx).2,fun b o _ n _=>n,fun b o q nx=>?_,fun _ _ q=>q,fun _ _ _ q=>q,fun b ps q=>⟨#[],by rw[q];simp⟩⟩ (fun a o q=>?_) ⟨oe',vs',_,f1,f2,f3,f4,f5,ye,ue,.inr ⟨T,oT',ts',rfl,f6,f7,f8,f9,?_,I.hok.fresh q1⟩⟩
 ·obtain⟨sl,q'⟩:=g.slot b o q (nch b nx).1 (nch b nx).2
  exact⟨_,q'⟩
 ·have tr:∀b o',H b=some o'->b≠e/\hv ≠ .ref b/\b∉frs (X.env::X.outer):=fun b o' z=>by
   refine⟨fun w=>?_,fun w=>?_,fun w=>?_⟩
   ·rw[w,ue]at z;cases z
   ·rcases hh with y | ⟨T,oT,ts,y,_,_,_,_,_,u⟩
    ·rw[y]at w;cases w
    ·rw[y]at w;cases w;rw[u]at z;cases z
   ·rw[<- hs]at w
    rw[I.stkFree b w]at z;cases z
  refine(I.hok a o q).stay (fun b u hb z=>?_) (fun _ z=>z) fun _ _ z=>z
  have:∃o',H b=some o':=by
   rcases hb with rfl | hb
   ·exact⟨_,q⟩
   ·exact⟨_,hb⟩
  obtain⟨o',ho'⟩:=this
  obtain⟨a1,a2,a3⟩:=tr b o' ho'
  exact g.keep b u z a1 a2 a3
 ·cases z:h0.get? T with
  | none=>rfl
  | some o=>exact absurd (hsub T o z) (Nat.not_lt.mpr q1)
end
def odV:Option Addr->Value
 | none=>.none
 | some dx=>.ref dx
def Yg (h:Heap)(od:Option Addr):Prop:=∀dx,od=some dx->h.get? dx=none
def CX1 (P:Program)(w:World):CXT:=fun outer H s E e s' =>
 ∃a C od H',e = .ref a/\s'.os=s.os/\AllBare s'.gens/\Un (frs outer) [] H H' s.heap s'.heap/\HOk P w H' s'.heap/\Hot od s.heap s'.heap H' a C/\Yg s.heap od/\E (odV od) (some C) H'
section
variable {P:Program}{w:World}{K:PySem.W.Frag}{mg:Str->Option Value}{base:Heap}{N:List Str}{qual:Str}{scope:Scope}{f:Addr}{cd:Value}{A:Around}{outer:List Env}{s0:Shared}{H0:Hp}{E:XK}
theorem h1j {pins:List (Addr×Obj)}{σ:St}{H:Hp}{s:Shared}{e C:Addr}{od:Option Addr}(I:Inv (cxOf (CX1 P w) P w K mg base N qual scope f cd A outer s0 H0 E) pins σ H s)(hot:Hot od s0.heap s.heap H e C)(hyg:Yg s0.heap od)(he:E (odV od) (some C) H) :
  (cxOf (CX1 P w) P w K mg base N qual scope f cd A outer s0 H0 E).xe (.ref e) s:=by
 show wpAny (model P w) _ (leaving _ (.ref e)) _ _ s
 unfold leaving
 refine wpAny_bind (lvI I rfl rfl (fun b o q=>?_) hot fun h' ch hch hin un hok hot'=>?_)
 ·exact Nat.lt_of_lt_of_le (Heap.lt_size q) I.sz
 ·have lo:∀b o,s0.heap.get? b=some o->b∉ch:=fun b o q z=>by rw[(hch b z).1]at q;cases q
  have nL:∀b o,s0.heap.get? b=some o->b≠s0.heap.objs.size:=fun b o q=>Nat.ne_of_lt (Heap.lt_size q)
  refine⟨e,C,od,H,rfl,I.os,I.bare,⟨fun b o q n nf _=>?_,fun b o q n hb _=>?_,fun b o q n _=>I.base.free b o q n (fun z=>nomatch z),fun b o q _=>?_,I.base.tups,I.base.frzs,I.base.tbls⟩,hok,hot',hyg,he⟩
  ·refine un.keep b o (I.base.keep b o q n nf fun z=>nomatch z) (I.base.free b o q n fun z=>nomatch z) (fun z=>?_) (lo b o q)
   rcases List.mem_cons.mp z with z | z
   ·exact nL b o q z
   ·exact nf z
  ·obtain⟨sl,q'⟩:=I.base.slot b o q n hb fun z=>nomatch z
   obtain⟨sl',q''⟩:=un.slot b _ q' (I.base.free b o q n fun z=>nomatch z) (.tail _ hb) (lo b o q)
   exact⟨sl',q''⟩
  ·obtain⟨o',q'⟩:=I.base.there b o q fun z=>nomatch z
   exact un.there b o' q' (lo b o q)
end
abbrev bmV:List Value:=[.type "ValueError",.type "Exception",.type "BaseException",.type "object"]
theorem d1t {K:PySem.W.Frag}{h:Heap}{x:Str}{C:Addr}{mg:Str->Option Value}(KX:K.In h)(hm:mg x=some (.ref C))(q:PySem.W.excIn K C bmV "ValueError.__new__" = true):OwnCls x C bmV "ValueError.__new__" mg h:=by
 unfold PySem.W.excIn at q
 split at q
 next dd cd sl lk =>
  split at q
  next C' bm k0 k1 k2 k3 n k5 em es =>
   simp only[Bool.and_eq_true,beq_iff_eq,Bool.not_eq_true']at q
   obtain⟨⟨⟨⟨⟨rfl,rfl⟩,nd⟩,tl⟩,nk⟩,ni⟩:=q
   obtain⟨a1,a2,a3,a4,a5,a6,a7,a8,a9,a10,a11⟩:=cd
   obtain⟨l⟩:=sl
   dsimp only at em nd nk ni es
   subst em nd es
   exact⟨hm,bm,a4,a1,a5,a2,a6,a7,a8,a9,a10,dd,k0,k1,k2,k3,k5,_,KX _ _ lk,.of_isNs (PySem.W.isNs_of_in KX nk),PySem.W.nsMap_none_of_in KX nk ni,PySem.W.tail_of_in KX tl⟩
  ·cases q
 ·cases q
theorem HOk.get {P:Program}{w:World}{H:Hp}{h:Heap}{a:Addr}{o:HO}(k:HOk P w H h)(e:H a=some o):∃u,h.get? a=some u:=by
 have x:=k a o e
 cases o with
 | lst xs=>obtain⟨_,_,_,_,e⟩:=x;exact⟨_,e⟩
 | tup xs=>obtain⟨_,_,_,ob,e,_⟩:=x;exact⟨_,e⟩
 | dK kvs=>obtain⟨_,_,_,_,o,_,_,e,_⟩:=x;exact⟨_,e⟩
 | dT kvs=>obtain⟨_,_,_,_,o,_,_,e,_⟩:=x;exact⟨_,e⟩
 | set S n=>obtain⟨o,_,_,_,e,_⟩:=x;exact⟨_,e⟩
 | ins C dx fs=>obtain⟨_,_,_,e,_⟩:=x;exact⟨_,e⟩
 | own y=>exact x
 | xd fs=>obtain⟨_,⟨_,_,_,e,_⟩,_⟩:=x;exact⟨_,e⟩
 | rng lo hi=>obtain⟨_,_,_,e⟩:=x;exact⟨_,e⟩
 | frz ob u=>obtain⟨e,_⟩:=x;exact⟨_,e⟩
 | tbl ps=>exact⟨_,x⟩
 | met f y=>exact⟨_,x⟩
 | ext φ=>obtain⟨_,e,_⟩:=x;exact e
theorem Inv.back0 {X:Cx}{pins:List (Addr×Obj)}{σ:St}{H:Hp}{s:Shared}(I:Inv X pins σ H s)(hx:X.ex=[]){b:Addr}(h:s.heap.get? b=none):X.s₀.heap.get? b=none:=by
 cases q:X.s₀.heap.get? b with
 | none=>rfl
 | some o =>
  obtain⟨o',q'⟩:=I.base.there b o q (by rw[hx];simp)
  rw[h]at q';cases q'
def Fld (H:Hp):Option Str->Option Addr->V->Prop
 | none,od,v=>od=none/\v = .non
 | some f,od,v=>∃dx,od=some dx/\H dx=some (.xd [(f,v)])
structure Tie (X:Cx)(C:Addr)(fn:Option Str)(R:VK):Prop where
 ex:X.ex=[]
 run:∀ {pins:List (Addr×Obj)} {σ:St} {H:Hp} {s:Shared} {e:Addr} {od:Option Addr} {v:V},Inv X pins σ H s->Hot od X.s₀.heap s.heap H e C->Yg X.s₀.heap od->Fld H fn od v->R v H->X.xe (.ref e) s
def SPr (X:Cx)(pins:List (Addr×Obj))(D:Ends)(f:Flow)(s':Shared):Prop :=
 match f with
 | .next=>∃ σ' H',Inv X pins σ' H' s'/\D.nx σ' H'
 | _=>False
def PSr (X:Cx)(R:VK)(st:Stmt)(t:TS):Prop :=
 ∀(pins:List (Addr×Obj)) (s:Shared) (σ:St) (H:Hp) (D:Ends),D.rt=R->Inv X pins σ H s->t D σ H->wpAny (model X.prog X.w) X.A (exec st X.env) (SPr X pins D) X.xe s
def PSsr (X:Cx)(R:VK)(st:List Stmt)(t:TS):Prop :=
 ∀(pins:List (Addr×Obj)) (s:Shared) (σ:St) (H:Hp) (D:Ends),D.rt=R->Inv X pins σ H s->t D σ H->wpAny (model X.prog X.w) X.A (execs st X.env) (SPr X pins D) X.xe s
def c1a (D:Ends):Ends:={nx:=D.nx,rt:=fun _ _=>False,bk:=fun _ _=>False,ct:=fun _ _=>False}
section
variable {X:Cx}{R:VK}{C:Addr}
theorem j0p {st:Stmt}{t:TS}(h:PS X.nox st t)(ht:∀D σ H,t D σ H->t (c1a D) σ H:=by intro _ _ _ h;exact h):PSr X R st t:=fun pins s σ H D _ I hw=>by
 refine wpAny_mono (h pins s σ H (c1a D) (I.wish _) (ht D σ H hw)) (fun f s' q=>?_) fun _ _ z=>False.elim z
 cases f with
 | next=>obtain⟨σ',H',I',q⟩:=q;exact⟨σ',H',I'.unwish,q⟩
 | brk=>obtain⟨_,_,_,q⟩:=q;exact q
 | cont=>obtain⟨_,_,_,q⟩:=q;exact q
 | ret u=>obtain⟨_,_,_,_,_,q⟩:=q;exact q
theorem j0b:PSsr X R [] tNext:=fun _ _ σ H _ _ I h=>wpAny_execs_nil ⟨σ,H,I,h⟩
theorem c0v {st:Stmt}{rest:List Stmt}{t u:TS}(h1:PSr X R st t)(h2:PSsr X R rest u):PSsr X R (st::rest) (tSeq t u):=by
 intro pins s σ H D e I h
 refine wpAny_execs_cons (thn (h1 pins s σ H {D with nx:=u D} e I h) fun f s1 q=>?_)
 cases f with
 | next =>
  obtain⟨σ',H',I',q⟩:=q
  exact h2 pins s1 σ' H' D e I' q
 | ret v=>exact q
 | brk=>exact q
 | cont=>exact q
theorem t0u {st:List Stmt}:PSsr X R st tNever:=fun _ _ _ _ _ _ _ h=>h.elim
theorem g1t {c:Expr}{a b:List Stmt}{tc:TT}{t u:TS}{pos:Pos}(hc:PT X.nox c tc)(ha:PSsr X R a t)(hb:PSsr X R b u):PSr X R (.If c a b pos) (tIfS tc t u):=by
 intro pins s σ H D e I h
 refine wpAny_If (thn (hc.nox pins s σ H _ I h) fun d s1 ⟨H1,I1,q1⟩=>?_)
 cases d with
 | true=>exact ha pins s1 σ H1 D e I1 q1
 | false=>exact hb pins s1 σ H1 D e I1 q1
end
theorem PA.nox {X:Cx}{es:List Expr}{t:TA}(h:PA X.nox es t):PA X es t:=fun pos pins s σ H Q I hw =>
 wpAny_mono (h pos pins s σ H Q (I.wish _) hw) (fun _ _ ⟨xs,H',I',r,q⟩=>⟨xs,H',I'.unwish,r,q⟩) fun _ _ z=>False.elim z
def XW (E:XK)(C:Addr)(fn:Option Str):VK:=fun v H'=>∀od,Fld H' fn od v->E (odV od) (some C) H'
def spX (C:Addr)(fn:Option Str)(sp:Sp):Sp:=fun vs H Q E=>sp vs H (XW E C fn) E
structure OkX (P:Program)(w:World)(K:PySem.W.Frag)(mg:Str->Option Value)(base:Heap)(k:Nat)(x:Str)(ps:List Str)(C:Addr)(fn:Option Str)(sp:Sp):Prop where
 ex:∃f fd,mg x=some (.ref f)/\PySem.W.keepIn K (.ref f)=true/\u0w K fd ps []/\FnOk P w K mg base (CX1 P w) k f fd ps (spX C fn sp)
section
variable {P:Program}{w:World}{K:PySem.W.Frag}{mg:Str->Option Value}{base:Heap}{N:List Str}{qual:Str}{scope:Scope}{f:Addr}{cd:Value}{A:Around}{outer:List Env}{s0:Shared}{H0:Hp}{E:XK}{C:Addr}{fn:Option Str}{od:Option Addr}
theorem tie1:Tie (cxOf (CX1 P w) P w K mg base N qual scope f cd A outer s0 H0 E) C fn (XW E C fn):=⟨rfl,fun I hot hy hf hr=>h1j I hot hy (hr _ hf)⟩
theorem Hot.older {h0 h1 h:Heap}{H:Hp}{e C:Addr}(q:Hot od h1 h H e C)(le:∀b,h1.get? b=none->h0.get? b=none):Hot od h0 h H e C:=by
 obtain⟨oe,vs,hv,a1,a2,a3,a4,a5,a6,a7,a8⟩:=q
 refine⟨oe,vs,hv,a1,a2,a3,a4,a5,le _ a6,a7,?_⟩
 rcases a8 with z | ⟨T,oT,ts,b1,b2,b3,b4,b5,b6,b7⟩
 ·exact .inl z
 ·exact .inr ⟨T,oT,ts,b1,b2,b3,b4,b5,le _ b6,b7⟩
end
section
variable {X:Cx}{E:XK}{C:Addr}{fn:Option Str}{K:PySem.W.Frag}{S:ASp}
theorem z0q {k:Nat}{x:Str}{ps:List Str}{p cpos pos:Pos}{e:Expr}{es:List Expr}{t:TA}(F:OkX X.prog X.w X.K X.mg X.base k x ps C fn (spA K S))(hr:Room k X.A)(hx:q0a (CX1 X.prog X.w) X E)(ha:PA X.nox (e::es) t)(hg:Gl X x:=by rfl)
  (hdb:(x==("__debug__" : Str))=false:=by decide) (he:starEach (e::es) X.env=(false,eval e X.env)::starEach es X.env:=by rfl) (hpl:(backTo cpos (starEach es X.env)).any (·.1)=false:=by rfl)
  (hs:swapsWith (.Call (.Name x p) (e::es) [] cpos) none pos.line X.env=pure false:=by rfl) :
  PSr X (XW E C fn) (.Expr (.Call (.Name x p) (e::es) [] cpos) pos) (tRet (v0p (spA K S) [] E0 t)):=by
 obtain⟨f,fd,hm,hk,hb,F⟩:=F.ex
 intro pins s σ H D e1 I h
 have pe:=w0k (p:=p) (sp:=spX C fn (spA K S)) (E:=E) F hr hg hm hk hb .nil hx ha.nox hdb he hpl
 have h':v0p (spX C fn (spA K S)) [] E t σ H fun _ _=>False:=by
  have h2:t σ H fun vs H1=>spA K S (vs++[]) H1 D.rt E0:=h
  rw[e1]at h2
  exact h2
 exact wpAny_Expr_any (thn (pe pins s σ H _ I h') fun v s1 ⟨_,_,_,_,q1⟩=>q1.elim) I.quiet hs
theorem d1h {R:VK}{body:List Stmt}{t:TS}(h:PSsr X R body t):PSs X body (fun _ σ H=>∃D0:Ends,D0.rt=R/\(∀ σ H,¬D0.nx σ H)/\t D0 σ H):=by
 rintro pins s σ H D I ⟨D0,e,no,ht⟩
 refine thn (h pins s σ H D0 e I ht) fun fl s' q=>?_
 cases fl with
 | next=>obtain⟨σ',H',_,q⟩:=q;exact(no _ _ q).elim
 | ret v=>exact False.elim q
 | brk=>exact False.elim q
 | cont=>exact False.elim q
end
theorem DefN.aokX {P:Program}{w:World}{K:PySem.W.Frag}{mg:Str->Option Value}{base:Heap}{x:Str}{st:Stmt}{N ps:List Str}{k:Nat}{a:AS}(D:DefN K mg x st ps)(Sc:b0l N ps (a0i st))(pr:Nat->Bool)(us:En)(S:ASp)(C:Addr)(fn:Option Str)(hus:List.replicate (N.length - ps.length) Sv.un=us)
  (hbody:∀(f:Addr) (cdv:Value) (A:Around) (outer:List Env) (s:Shared) (H:Hp) (E:XK),Room k (A.deeper (envOfC x (a0i st) s.heap.objs.size f cdv)) ->
   ∃t,PSsr (cxOf (CX1 P w) P w K mg base N x (a0i st) f cdv A outer s H E) (XW E C fn) (e0x st) t/\TSok K pr t a)
  (hS:∀ss q,S ss q->ss.length=ps.length/\ownB pr ss 0=true/\a ⟨fun _=>False,fun r ρ=>(∃d,r = .d d)/\q r (outS ss ρ),fun _=>False,fun _=>False⟩ (ss++us)):OkX P w K mg base (k+1) x ps C fn (spA K S):=by
 have lenOk:∀vs H Q E,spX C fn (spA K S) vs H Q E->vs.length=ps.length:=fun vs H Q E h=>by
  obtain⟨ss,Z,q,r,hs',_⟩:=h
  have:=r.len
  rw[List.length_map]at this
  rw[this];exact(hS ss q hs').1
 obtain⟨f,fd,hm,F,hb⟩:=D.ex
 refine⟨f,fd,hm,F.kp,.all hb,?_⟩
 obtain⟨oc,od,kV,doc,pm,an,cdv,ct,osl,rfl,lk,hcd⟩:=F.ex
 refine i1e lk hcd Sc lenOk fun A outer s H vs Q E hr h=>?_
 have hl:=lenOk _ _ _ _ h
 obtain⟨ss,Z,q,r0,hs',post⟩:=h
 obtain⟨h1,h2,h3⟩:=hS ss q hs'
 obtain⟨t,ht,tok⟩:=hbody f cdv A outer s H E hr
 refine⟨_,d1h ht,{nx:=fun _ _=>False,rt:=XW E C fn,bk:=fun _ _=>False,ct:=fun _ _=>False},rfl,fun _ _ z=>z,?_⟩
 have hp:∀i a,(F0 vs ss H Z).pin i a->pr i=true:=fun i a h=>by
  rcases h with h | h
  ·have:=q0q h2 i h.1;rwa [Nat.zero_add]at this
  ·exact h.elim
 unfold start
 rw[hl]
 rw[<- hus]at h3
 refine tok (F0 vs ss H Z) _ _ H _ _ hp (r0.ext _) h3 ⟨fun _ _ _ z=>z.elim,fun _ _ _ z=>z.elim,fun _ _ _ z=>z.elim,fun σ' ρ' rr v H' hq r=>?_⟩
 obtain⟨⟨d,e⟩,hq⟩:=hq
 subst e
 obtain⟨r1,r2⟩:=r
 obtain⟨o1,o2,o3⟩:=r0.out r1
 exact post (.d d) _ v H' hq o3 (fun i z=>nomatch z) ⟨o1,r2.same o2⟩
section
variable {X:Cx}{pins:List (Addr×Obj)}{σ σ1:St}{H H1:Hp}{s s1:Shared}{h':Heap}{ch:List Addr}{e C:Addr}
theorem Inv.hot (I1:Inv X pins σ1 H1 s1)(I:Inv X pins σ H s)(hx:X.ex=[])(un:Un (frs X.stack) ch H H s.heap h')(hok:HOk X.prog X.w H h')(hch:∀b∈ch,s1.heap.get? b=none):Inv X pins σ H {s with heap:=h'}:=by
 have n0:∀b o,X.s₀.heap.get? b=some o->b∉ch:=fun b o q z=>by
  obtain⟨o',q'⟩:=I1.base.there b o q (by rw[hx];simp)
  rw[hch b z]at q';cases q'
 have nf:∀b o,X.s₀.heap.get? b=some o->b∉X.fs->b∉frs X.stack:=fun b o q n z=>by
  rcases List.mem_cons.mp (I.stkSub b z)with z | z
  ·exact absurd (Nat.lt_of_lt_of_le (Heap.lt_size q) I.ok.above) (by rw[z];exact Nat.lt_irrefl _)
  ·exact n z
 have nx:∀b,b∉X.ex:=fun b=>by rw[hx];simp
 obtain⟨m,⟨o,es,ep,ho,r⟩,hl⟩:=id I.loc
 have nL:X.env.locals∉ch:=fun z=>by
  obtain⟨m1,⟨o1,_,_,ho1,_⟩,_⟩:=id I1.loc
  rw[hch _ z]at ho1;cases ho1
 have nC:∀x c,X.env.cells.lookup x=some c->c∉ch:=fun x c q z=>by
  obtain⟨v,o1,ho1,_⟩:=I1.cell x c q
  rw[hch _ z]at ho1;cases ho1
 have cell:∀ {x c v},X.env.cells.lookup x=some c->s.heap.IsCell c v->Heap.IsCell h' c v:=fun{x c v} q ⟨oc,hoc,hd⟩=>by
  obtain⟨sl,q'⟩:=un.any hoc (I.freeC x c q) (nC x c q)
  exact⟨_,q',hd⟩
 obtain⟨sl,hL⟩:=un.any ho I.free nL
 refine⟨I.ok,I.os,I.bare,⟨fun b o q n f _=>?_,fun b o q n f _=>?_,fun b o q n _=>I.base.free b o q n (nx b),fun b o q _=>?_,I.base.tups,I.base.frzs,I.base.tbls⟩,⟨m,⟨_,es,ep,hL,r⟩,fun i x v a1 a2 a3=>?_⟩,fun x c q=>?_,I.free,I.freeC,fun p hp=>?_,hok,I.len⟩
 ·exact un.keep b o (I.base.keep b o q n f (nx b)) (I.base.free b o q n (nx b)) (nf b o q f) (n0 b o q)
 ·obtain⟨sl1,q1⟩:=I.base.slot b o q n f (nx b)
  obtain⟨sl2,q2⟩:=un.any q1 (I.base.free b o q n (nx b)) (n0 b o q)
  exact⟨sl2,q2⟩
 ·obtain⟨o',q'⟩:=I.base.there b o q (nx b)
  exact un.there b o' q' (n0 b o q)
 ·obtain⟨u,ru,lk⟩:=hl i x v a1 a2 a3
  refine⟨u,ru,?_⟩
  rcases lk with z | ⟨z1,c,z2,z3⟩
  ·exact .inl z
  ·exact .inr ⟨z1,c,z2,cell z2 z3⟩
 ·obtain⟨v,hv⟩:=I.cell x c q
  exact⟨v,cell q hv⟩
 ·obtain⟨p1,p2,p3,p4,p5⟩:=I.pin p hp
  refine⟨un.keep _ _ p1 p2 (fun z=>?_) (fun z=>?_),p2,p3,p4,p5⟩
  ·rcases List.mem_cons.mp (I.stkSub _ z)with z | z
   ·exact p3 z
   ·exact p4 z
  ·have:=(I1.pin p hp).1
   rw[hch _ z]at this;cases this
theorem sfI {A:Around}{E:Value->Shared->Prop}{Q:Unit->Shared->Prop}{h0:Heap}{od:Option Addr}(I:Inv X pins σ H s)(hot:Hot od h0 s.heap H e C)
  (fin:∀h' ch,(∀b∈ch,h0.get? b=none)->Un (frs X.stack) ch H H s.heap h'->HOk X.prog X.w H h'->(∃oe vs,h'.get? e=some oe/\oe.cls = .ref C/\oe.dict=od/\oe.data = .fields vs)->Q () {s with heap:=h'}) :
  wpAny (model X.prog X.w) A (setFlight (.ref e) none) Q E s:=by
 obtain⟨oe,vs,hv,ge,gc,gd,gf,g1,ye,ue,hh⟩:=hot
 unfold setFlight
 refine wpAny_bind (wpAny_field ge gf g1 ?_)
 rcases hh with rfl | ⟨T,oT,ts,rfl,nT,gT,fT,t3,yT,uT⟩
 ·rw[if_neg (by decide)]
  exact wpAny_pure (fin s.heap [] (fun _ z=>nomatch z) (.kept fun _ _ q=>q) I.hok ⟨oe,vs,ge,gc,gd,gf⟩)
 ·rw[if_pos (by simp:(Value.ref T != Value.none)=true)]
  refine wpAny_setField gT fT (Array.getElem?_eq_some_iff.mp t3).1 ?_
  have ot:∀b,b≠T->(s.heap.update T (Obj.mapFields fun a=>a.setIfInBounds 3 ((none:Option Addr).elim Value.none fun f=>rawInt f))).get? b=s.heap.get? b:=fun b q=>Heap.get?_update_other _ _ (Ne.symm q)
  have nin:∀b,b∉[T]->b≠T:=fun b q z=>q (by rw[z];exact .head _)
  refine fin _ [T] (fun b z=>by rw[List.mem_singleton.mp z];exact yT) ⟨fun b o q _ _ n=>(ot b (nin b n)).trans q,fun b o q _ _ n=>⟨o.slots,(ot b (nin b n)).trans q⟩,fun _ _ _ n _=>n,fun b o q n=>⟨o,(ot b (nin b n)).trans q⟩,fun _ _ q=>q,fun _ _ _ q=>q,fun b ps q=>⟨#[],by rw[q];simp⟩⟩ (fun a o q=>?_) ⟨oe,vs,(ot e nT.symm).trans ge,gc,gd,gf⟩
  refine(I.hok a o q).stay (fun b u hb z=>(ot b fun w=>?_).trans z) (fun _ z=>z) fun _ _ z=>z
  subst w
  rcases hb with hb | hb
  ·rw[<- hb,uT]at q;cases q
  ·rw[uT]at hb;cases hb
end
def y0v (X:Cx)(body:List Stmt)(c:Expr):Prop:=∀(Q:Flow->Shared->Prop) (E:Value->Shared->Prop) (pins:List (Addr×Obj)) (σ:St) (H:Hp) (s:Shared),Inv X pins σ H s->wpAny (model X.prog X.w) X.A (eval c X.env) (fun _ _=>False) E s->wpAny (model X.prog X.w) X.A (execs body X.env) Q E s
section
variable {X:Cx}{K:PySem.W.Frag}{S:ASp}
theorem d1j {body:List Stmt}{t:TS}{h0:ExceptHandler}{hs:List ExceptHandler}{pos:Pos}(h:PSs X.nox body t):PS X (.Try body (h0::hs) [] [] pos) t:=by
 intro pins s σ H D I ht
 refine wpAny_Try_except (wpAny_mono (h pins s σ H D (I.wish _) ht) (fun f s1 q=>?_) fun _ _ z=>False.elim z)
 have q':=SP.unwish q
 cases f with
 | next=>exact wpAny_execs_nil q'
 | ret v=>exact q'
 | brk=>exact q'
 | cont=>exact q'
theorem j1a {st:Stmt}{t u:TS}(h1:PS X st t)(h2:PS X st u):PS X st (fun D σ H=>t D σ H∨u D σ H):=fun pins s σ H D I h=>h.elim (h1 pins s σ H D I) (h2 pins s σ H D I)
end
end L2
namespace L2
open PySem PySem.Spec PyProof.Rows PySem.W
section
variable {prog:Program}{w:World}{A:Around}{E:Value->Shared->Prop}{s:Shared}{K:PySem.W.Frag}{x D:Addr}{ox:Obj}{odo:Option Obj}
theorem x0r {Q:Option Value->Shared->Prop}(KX:K.In s.heap)(I:PySem.W.InstAt s.heap x ox D odo)(hga:findIn K (.ref D) "__getattribute__" = some (some (.builtin "BaseException.__getattribute__")))(hgn:findIn K (.ref D) "__getattr__" = some none)
  (hf:findObj K D odo "__class__" = some (.bind (.builtin "getset_descriptor.__get__") (.builtin "object.__class__"))) (hm:mroIn K D (.type "object")=some true) (hb:subIn K (.ref D) (.type "BaseException")=some true)
  (h:Q (some (.ref D)) {s with toks:=s.toks+1}):wpAny (model prog w) A (getAttr? (.ref x) "__class__") Q E s:=by
 obtain⟨hh,g,d,t,os⟩:=s
 have L0:=I.type (M:=model prog w)
 have L1:=looks_findIn (M:=model prog w) KX hga
 have L2:=looks_findIn (M:=model prog w) KX hgn
 have L3:=looks_find (M:=model prog w) KX I hf
 have L4:=looks_subIn (M:=model prog w) KX hb
 have f3:=PySem.F.excAttr_ValueError.ga.bind (.ref x)
 have hk:builtinKind "BaseException.__getattribute__" = some .slot:=by decide +kernel
 have hsp:splitId "BaseException.__getattribute__" = some ("BaseException", "__getattribute__"):=by decide +kernel
 have ha:=PySem.F.args_bexc_ga (.ref x) (.str "__class__" t)
 unfold getAttr? getAttrBy? getAttrBy
 refine wpAny_bind (wpAny_mkText (wpAny_bind (wpAny_attempt (wpAny_holding (wpAny_bind (L0.at (wpAny_bind (L1.at ?_))))))))
 show wpAny _ _ (getAttrByItsOwn _ _ _ _ _ _) _ _ _
 unfold getAttrByItsOwn
 repeat (any_goals (first | assumption | with_reducible refine L0.at ?_ | with_reducible refine L1.at ?_ | with_reducible refine L2.at ?_ | wp_step))
 refine codeAny_call_builtin PySem.F.excAttr_ValueError.ga.plain PySem.F.entry_bexc_ga ?_
 simp only[checkBuiltinCall,hk,hsp]
 refine wpAny_bind ?_
 unfold isInstance
 repeat (any_goals (first | assumption | with_reducible refine L0.at ?_ | with_reducible refine L4.at ?_ | with_reducible refine L3.at ?_ | wp_step))
 refine class_get (s:=⟨hh,g,d,t+1,os⟩) (ox:=ox) (od:=odo) KX I hm ?_
 show wpAny _ _ (ret (.ref D)) _ _ _
 refine wpAny_pure ?_
 exact handed_on rfl (wpAny_pure h)
end
structure ExIs (K:PySem.W.Frag)(C:Addr):Prop where
 ga:findIn K (.ref C) "__getattribute__" = some (some (.builtin "BaseException.__getattribute__"))
 gn:findIn K (.ref C) "__getattr__" = some none
 cl:∀od,findObj K C od "__class__" = some (.bind (.builtin "getset_descriptor.__get__") (.builtin "object.__class__"))
 mo:mroIn K C (.type "object")=some true
 be:subIn K (.ref C) (.type "BaseException")=some true
 is:(clsIn K C).isSome=true
theorem ExIs.of {K:PySem.W.Frag}{C:Addr}(ga:findIn K (.ref C) "__getattribute__" = some (some (.builtin "BaseException.__getattribute__")))(gn:findIn K (.ref C) "__getattr__" = some none)(hc:hasDictIn K C=true)(ha:findIn K (.ref C) "__class__" = some (some (.builtin "object.__class__")))
  (hn:specialIn K (.builtin "object.__class__") "__get__" = some (some (.builtin "getset_descriptor.__get__"))) (ht:takesIn K (.builtin "object.__class__")=some true) (mo:mroIn K C (.type "object")=some true) (be:subIn K (.ref C) (.type "BaseException")=some true):ExIs K C:=by
 obtain⟨cd,hcd,_⟩:=any_some hc
 refine⟨ga,gn,fun od=>?_,mo,be,by rw[hcd];rfl⟩
 unfold findObj
 rw[hcd,Option.bind_some,ha,Option.bind_some]
 simp only[hn,ht,Option.bind_some]
theorem z0x {K:PySem.W.Frag}{a C:Addr}{oe:Obj}{odo:Option Obj}(q:ExIs K C):KitX K (.ref a) (.ref C) (fun h=>PySem.W.InstAt h a oe C odo) where
 ty:=fun _ _ _ I=>I.type
 it:=fun _ _ KX _=>by
  have z:=q.is
  unfold clsIn at z
  split at z
  next lk =>
   intro A' Q' E' s' k w
   unfold isType loadHead
   exact wpAny_bind (wpAny_loadPart (k _ _ (KX _ _ lk)) (wpAny_pure w))
  ·cases z
 ne:=fun h tp dd its n sl KX g=>Bool.eq_false_iff.mpr fun e=>by
  have e':C=tp:=Value.ref.inj (beq_iff_eq.mp e)
  subst e'
  have z:=q.is
  unfold clsIn at z
  split at z
  next lk=>cases (KX _ _ lk).symm.trans g
  ·cases z
 ca:=fun KX I k=>x0r KX I q.ga q.gn (q.cl _) q.mo q.be k
section
variable {K:PySem.W.Frag}{pr:Nat->Bool}{t u:TS}{a b:AS}{S:ASp}{ts:TA}{as:AA}{th:Addr->TS}{ah:AS}{i:Nat}
def aOr2 (a b:AS):AS:=fun k ρ=>a k ρ∨b k ρ
theorem b1r (h1:TSok K pr t a)(h2:TSok K pr u b):TSok K pr (fun D σ H=>t D σ H∨u D σ H) (aOr2 a b):=fun F σ ρ H D e hp r ha k=>ha.elim (fun z=>.inl (h1 F σ ρ H D e hp r z k)) fun z=>.inr (h2 F σ ρ H D e hp r z k)
end
section
variable {X:Cx}{pins:List (Addr×Obj)}{σ σ1:St}{H H1:Hp}{s s1:Shared}{h':Heap}{e C:Addr}
def mcx (X:Cx)(e:Addr):Cx:={X with A:=X.A.mark (some (.ref e)),calm:=false,xe:=fun _ _=>False}
theorem Inv.mcx (I:Inv X pins σ H s)(e:Addr):Inv (mcx X e) pins σ H s :=
 ⟨⟨I.ok.mod,I.ok.kind,I.ok.glob,I.ok.blt,I.ok.above,I.ok.inj,I.ok.has,I.ok.cab,fun z=>(nomatch z),I.ok.frames,I.ok.stk,I.ok.exf,I.ok.bs,I.ok.bsz,I.ok.noex,I.ok.exfs,I.ok.funs,I.ok.frf⟩,I.os,I.bare,I.base,I.loc,I.cell,I.free,I.freeC,I.pin,I.hok,I.len⟩
theorem Inv.trackX {od:Option Addr}(I1:Inv X pins σ1 H1 s1)(I:Inv X pins σ H s)(hex:X.ex=[])(ue:H e=none)(y:s1.heap.get? e=none)(hp:exP e C od s.heap):Inv X pins σ (upd H e (.ext (exP e C od))) s:=by
 obtain⟨oe,vs,ge,gc,gd,gf⟩:=id hp
 have y0:=I1.back0 hex y
 have ne:∀ {b:Addr} {o:HO},H b=some o->b≠e:=fun z w=>by rw[w,ue]at z;cases z
 have n0:∀b o,X.s₀.heap.get? b=some o->b≠e:=fun b o q z=>by rw[z,y0]at q;cases q
 have nL:X.env.locals≠e:=fun z=>by
  obtain⟨m1,⟨o1,_,_,ho1,_⟩,_⟩:=id I1.loc
  rw[z,y]at ho1;cases ho1
 have nC:∀x c,X.env.cells.lookup x=some c->c≠e:=fun x c q z=>by
  obtain⟨v,o1,ho1,_⟩:=I1.cell x c q
  rw[z,y]at ho1;cases ho1
 refine⟨I.ok,I.os,I.bare,⟨I.base.keep,I.base.slot,fun b o q n x=>?_,I.base.there,fun b xs q=>?_,fun b o u q=>?_,fun b ps q=>?_⟩,I.loc,I.cell,?_,fun x c q=>?_,fun p hp'=>?_,fun a o q=>?_,I.len⟩
 ·rw[a0o (n0 b o q)];exact I.base.free b o q n x
 ·have:=I.base.tups b xs q
  rw[a0o (ne this)];exact this
 ·have:=I.base.frzs b o u q
  rw[a0o (ne this)];exact this
 ·obtain⟨more,this⟩:=I.base.tbls b ps q
  exact⟨more,by rw[a0o (ne this)];exact this⟩
 ·rw[a0o nL];exact I.free
 ·rw[a0o (nC x c q)];exact I.freeC x c q
 ·obtain⟨p1,p2,p3,p4,p5⟩:=I.pin p hp'
  refine⟨p1,?_,p3,p4,p5⟩
  rw[a0o fun z=>?_]
  ·exact p2
  ·have:=(I1.pin p hp').1
   rw[z,y]at this;cases this
 ·by_cases z:a=e
  ·subst z
   rw[a0y]at q
   cases q
   exact⟨hp,⟨oe,ge⟩,fun h1 h2 ⟨oe,vs,g1,g2,g3,g4⟩ k=>⟨oe,vs,k _ g1,g2,g3,g4⟩⟩
  ·rw[a0o z]at q
   exact(I.hok a o q).stay (fun _ _ _ w=>w) (fun b w=>by rw[a0o (ne w)];exact w) fun b xs w=>by rw[a0o (ne w)];exact w
theorem Inv.goes {m:Str->Option Value}{v:Option Value}{n:Str}{i:Nat}{t':Nat}(I:Inv (L2.mcx X e) pins σ H s)(ok:X.Ok)(hN:X.N.Nodup)(hi:X.N[i]? = some n)(hm:∀(i:Nat) (x:Str) (v:V),X.N[i]? = some x->σ[i]? = some (some v)->Vis X.env.scope x->∃u,RelV v u/\Look X.env s.heap m x u)(sb:Heap.SameBut X.env.locals s.heap h')(hn:h'.Ns X.env.locals (fun x=>if x=n then v else m x)) :
  Inv X pins (σ.set i none) H {s with heap:=h',toks:=t'}:=by
 have kp:∀b o,b≠X.env.locals->s.heap.get? b=some o->h'.get? b=some o:=fun b o n q=>(sb.2 b n).trans q
 have n0:∀b o,X.s₀.heap.get? b=some o->b≠X.env.locals:=fun b o q=>Nat.ne_of_lt (Nat.lt_of_lt_of_le (Heap.lt_size q) I.ok.above)
 have cl:∀x c,X.env.cells.lookup x=some c->c≠X.env.locals:=fun x c q z=>by
  obtain⟨v,oc,hoc,hdc⟩:=I.cell x c q
  obtain⟨m,⟨o,es,ep,ho,hdo,_⟩,_⟩:=id I.loc
  rw[z]at hoc
  cases hoc.symm.trans (show s.heap.get? X.env.locals=some o from ho)
  rw[hdc]at hdo;cases hdo
 refine⟨ok,I.os,I.bare,⟨fun b o q n f x=>kp b o (n0 b o q) (I.base.keep b o q n f x),fun b o q n f x=>?_,I.base.free,fun b o q x=>?_,I.base.tups,I.base.frzs,I.base.tbls⟩,⟨_,hn,fun j x v' a1 a2 a3=>?_⟩,fun x c q=>?_,I.free,I.freeC,fun p hp=>?_,fun a o q=>?_,by rw[List.length_set];exact I.len⟩
 ·obtain⟨sl,q'⟩:=I.base.slot b o q n f x
  exact⟨sl,kp b _ (n0 b o q) q'⟩
 ·obtain⟨o',q'⟩:=I.base.there b o q x
  exact⟨o',kp b o' (n0 b o q) q'⟩
 ·have ij:i≠j:=fun z=>by
   subst z
   have:i<σ.length:=by rw[I.len];exact(List.getElem?_eq_some_iff.mp hi).1
   rw[List.getElem?_set_self this]at a2;cases a2
  rw[List.getElem?_set_ne ij]at a2
  obtain⟨u,ru,lk⟩:=hm j x v' a1 a2 a3
  refine⟨u,ru,?_⟩
  have xn:x≠n:=fun z=>by
   subst z
   have l1:=(List.getElem?_eq_some_iff.mp hi).1
   have:=(List.getElem?_inj l1 hN).mp (hi.trans a1.symm)
   exact ij this
  rcases lk with⟨z1,z2⟩ | ⟨z1,c,z2,oc,z3,z4⟩
  ·exact .inl ⟨z1,by show(if x=n then v else m x)=some u;rw[if_neg xn];exact z2⟩
  ·exact .inr ⟨z1,c,z2,oc,kp c oc (cl x c z2) z3,z4⟩
 ·obtain⟨v,oc,hoc,hdc⟩:=I.cell x c q
  exact⟨v,oc,kp c oc (cl x c q) hoc,hdc⟩
 ·obtain⟨p1,p2,p3,p4,p5⟩:=I.pin p hp
  exact⟨kp _ _ p3 p1,p2,p3,p4,p5⟩
 ·refine(I.hok a o q).stay (fun b u hb z=>kp b u (fun w=>?_) z) (fun _ z=>z) fun _ _ z=>z
  have fr:H b=none:=by rw[w];exact I.free
  rcases hb with hb | hb
  ·rw[<- hb,fr]at q;cases q
  ·rw[fr]at hb;cases hb
end
structure ECls (C:Addr)(h:Heap):Prop where
 obj:∃bm N nm q bs hdct sn sub ab col dd k0 k1 k2 k3 k5,h.get? C=some (excClassObj nm q C N bs bm hdct sn sub ab col dd k0 k1 k2 k3 k5 "ValueError.__new__")/\OwnTail h bmV bm
def k0k (K:PySem.W.Frag)(C:Addr):Bool:=match K.lookup C with
 | some ⟨.type "type",_,.cls cd,sl⟩=>(match cd.mro,sl.toList with
  | .ref C'::bm,[_,_,_,_,some (.builtin n),_]=>C'==C&&n == "ValueError.__new__" && !cd.hasDel&&PySem.W.tailIn K bmV bm
  | _,_=>false)
 | _=>false
theorem ecls {K:PySem.W.Frag}{h:Heap}{C:Addr}(KX:K.In h)(q:k0k K C=true):ECls C h:=by
 unfold k0k at q
 split at q
 next dd cd sl lk =>
  split at q
  next C' bm k0 k1 k2 k3 n k5 em es =>
   simp only[Bool.and_eq_true,beq_iff_eq,Bool.not_eq_true']at q
   obtain⟨⟨⟨rfl,rfl⟩,nd⟩,tl⟩:=q
   obtain⟨a1,a2,a3,a4,a5,a6,a7,a8,a9,a10,a11⟩:=cd
   obtain⟨l⟩:=sl
   dsimp only at em nd es
   subst em nd es
   exact⟨bm,a4,a1,a5,a2,a6,a7,a8,a9,a10,dd,k0,k1,k2,k3,k5,KX _ _ lk,PySem.W.tail_of_in KX tl⟩
  ·cases q
 ·cases q
theorem x0t {M:Model}{A:Around}{E:Value->Shared->Prop}{h:Heap}{g:Array GenState}{d:Drawn}{t:Nat}{os:OsState}{e C Dc:Addr}{oe:Obj}{Q:Bool->Shared->Prop}{b:Bool}
  (oD:ECls Dc h) (ge:h.get? e=some oe) (gc:oe.cls = .ref C) (hs:∀(A':Around) (E':Value->Shared->Prop) (Q':Bool->Shared->Prop),Q' b ⟨h,g,d,t,os⟩->wpAny M A' (isSubtype (.ref C) (.ref Dc)) Q' E' ⟨h,g,d,t,os⟩)
  (hq:Q b ⟨h,g,d,t,os⟩):wpAny M A (excMatches (.ref e) (.ref Dc)) Q E ⟨h,g,d,t,os⟩:=by
 obtain⟨b2,N2,m2,q2,s2,c2,n2,u2,a2,l2,d2,k20,k21,k22,k23,k25,hD,T2⟩:=oD.obj
 have hB:(Value.ref Dc::b2).contains (.type "BaseException")=true:=by rw[List.contains_cons,T2.hasType (b:=true) (by decide +kernel),Bool.or_true]
 have f:=tc_notTuple
 unfold excMatches
 repeat (first | (with_reducible refine wpAny_loadPart_at ge ?_;rw[gc]) | with_reducible refine wpAny_loadPart_at hD ?_ | (with_reducible refine wpAny_isSubtype_exc hD ?_;rw[hB]) | wp_step)
 refine hs _ _ _ ?_
 cases b with
 | true =>
  repeat wp_step
  exact hq
 | false =>
  repeat wp_step
  exact hq
def goE (i:Nat)(D:Ends):Ends:={nx:=fun σ H=>D.nx (σ.set i none) H,rt:=D.rt,bk:=fun σ H=>D.bk (σ.set i none) H,ct:=fun σ H=>D.ct (σ.set i none) H}
section
variable {X:Cx}{K:PySem.W.Frag}{S:ASp}
def HB (X:Cx)(C:Addr)(od:Option Addr)(hs:List ExceptHandler)(tH:Addr->TS):Prop :=
 ∀(a:Addr) (D:Ends) (pins:List (Addr×Obj)) (σ:St) (H1 H2:Hp) (s1 s3:Shared),Inv X pins σ H1 s1->Inv X pins σ H2 s3->Hot od s1.heap s3.heap H2 a C->tH a D σ H2 ->
  wpAny (model X.prog X.w) X.A (handleBy (.ref a) X.env hs) (SP X pins D) X.xe s3
def b1q (C:Addr)(i:Nat)(od:Option Addr)(th:TS):Addr->TS:=fun a D σ H=>th (goE i D) (σ.set i (some (.ref a))) (upd H a (.ext (exP a C od)))
theorem h1y {i:Nat}{y n:Str}{C Dc:Addr}{od:Option Addr}{np hpos:Pos}{suite:List Stmt}{b0:Stmt}{rest:List ExceptHandler}{th:TS}
  (hex:X.ex=[]) (hy:X.mg y=some (.ref Dc)) (q2:k0k X.K Dc=true) (q3:PySem.W.subIn X.K (.ref C) (.ref Dc)=some true)
  (hN:X.N.Nodup) (hi:X.N[i]? = some n) (hloc:X.env.scope.names.lookup n=some .local) (hh:∀a,PSs (mcx X a) (b0::suite) th) (hgy:Gl X y:=by rfl) (hdy:(y==("__debug__" : Str))=false:=by decide) :
  HB X C od (.ExceptHandler (some (.Name y np)) (some n) (b0::suite) hpos::rest) (b1q C i od th):=by
 intro a D pins σ H1 H2 s1 s3 I1 I3 hot3 hW
 obtain⟨oe3,vs3,hv3,ge3,gc3,gd3,gf3,g13,y3,u3,hh3⟩:=id hot3
 refine wpAny_handleBy_cons (codeAny_handlers_test (k0f (I3.mcx a) hgy hy ?_ hdy)) (by intro q;cases q)
 refine x0t (b:=true) (ecls I3.kIn q2) ge3 gc3 (fun A' E' Q' q=>(PySem.W.looks_subIn I3.kIn q3).at q) (codeAny_handlers_suite_as ?_)
 refine sfI I3 hot3 fun h4 ch4 hch4 un4 hok4 ⟨oe4,vs4,ge4,gc4,gd4,gf4⟩=>?_
 have I4:=Inv.hot I1 I3 hex un4 hok4 hch4
 have I4':=(Inv.trackX (C:=C) (od:=od) I1 I4 hex u3 y3 ⟨oe4,vs4,ge4,gc4,gd4,gf4⟩).mcx a
 refine h0m (X:=L2.mcx X a) (v:=.ref a) I4' hN hi (.inl hloc) rfl (fun s5 I5 _=>?_) (.inr hloc)
 refine wpAny_mono (hh a pins s5 _ _ (goE i D) I5 hW) (fun fl s6 q6=>?_) fun _ _ z=>False.elim z
 have go:∀ {σ6:St} {H6:Hp} {Q:Unit->Shared->Prop},Inv (L2.mcx X a) pins σ6 H6 s6->(∀s7,Inv X pins (σ6.set i none) H6 s7->Q () s7)->wpAny (model X.prog X.w) X.A (do bindName X.env n .none;unbindBehindTheSuite X.env n hpos) Q X.xe s6:=fun I6 k=>by
  obtain⟨m6,hn6,hm6⟩:=id I6.loc
  refine wpAny_nameGoes_keeps hloc hn6 (by show(X.env.scope.kind==_||_)=_;rw[I3.ok.kind];rfl) fun h7 v7 hn7 hs7=>?_
  exact k _ (I6.goes I3.ok hN hi hm6 hs7 hn7)
 cases fl with
 | next=>obtain⟨σ6,H6,I6,q⟩:=q6;exact go I6 fun s7 I7=>⟨_,H6,I7,q⟩
 | brk=>obtain⟨σ6,H6,I6,q⟩:=q6;exact go I6 fun s7 I7=>⟨_,H6,I7,q⟩
 | cont=>obtain⟨σ6,H6,I6,q⟩:=q6;exact go I6 fun s7 I7=>⟨_,H6,I7,q⟩
 | ret u=>obtain⟨v,σ6,H6,I6,rv,q⟩:=q6;exact go I6 fun s7 I7=>⟨v,_,H6,I7,rv,q⟩
theorem d1i {k:Nat}{x:Str}{ps:List Str}{C:Addr}{fn:Option Str}{p cpos pos:Pos}{e:Expr}{es:List Expr}{t:TA}{body:List Stmt}{h0:ExceptHandler}{hs:List ExceptHandler}{tH:Option Addr->Addr->TS}
  (F:OkX X.prog X.w X.K X.mg X.base k x ps C fn (spA K S)) (hr:Room k X.A) (hc:X.calm=true) (hex:X.ex=[]) (hst:X.stack=X.env::X.outer) (hfr:X.env.frame=some X.env.locals) (ha:PA X.nox (e::es) t)
  (hb1:y0v X body (.Call (.Name x p) (e::es) [] cpos)) (hH:∀od,HB X C od (h0::hs) (tH od))
  (hg:Gl X x:=by rfl) (hdb:(x==("__debug__" : Str))=false:=by decide) (he:starEach (e::es) X.env=(false,eval e X.env)::starEach es X.env:=by rfl) (hpl:(backTo cpos (starEach es X.env)).any (·.1)=false:=by rfl) :
  PS X (.Try body (h0::hs) [] [] pos) (fun D σ H=>t σ H fun vs H1=>spA K S (vs++[]) H1 (fun v H'=>∀a od,H' a=none->Fld H' fn od v->(∀dx,od=some dx->H1 dx=none)->tH od a D σ H') E0):=by
 intro pins s σ H D I h
 obtain⟨f,fd,hm,hk,hb,F⟩:=F.ex
 refine wpAny_Try_except (hb1 _ _ pins σ H _ I ?_)
 refine wpAny_Call_Name_kw (k0f I hg hm ?_ hdb)
 refine PySem.W.callWith_K (h₀:=X.base) I.ok.mod.kin hk (wpAny_mono (ha cpos pins s σ H _ (I.wish _) h) (fun us s1 ⟨vs,H1,I1w,r,q⟩=>⟨I1w.unwish.kIn,?_⟩) fun _ _ z=>False.elim z) he hpl
 have I1:=I1w.unwish
 have q':spX C fn (spA K S) (vs++[]) H1 (fun _ _=>False) (fun u cls H'=>cls=some C/\∃v od,u=odV od/\Fld H' fn od v/\∀a od,H' a=none->Fld H' fn od v->(∀dx,od=some dx->H1 dx=none)->tH od a D σ H'):=by
  obtain⟨ss,Z,q',a1,a2,a3⟩:=q
  exact⟨ss,Z,q',a1,a2,fun r ss' v H' b1 b2 b3 b4 od hf=>⟨rfl,v,od,rfl,hf,a3 r ss' v H' b1 b2 b3 b4⟩⟩
 have hl:(us++[]).length=ps.length:=by
  rw[<- (r.append (.nil:Vals [] [])).length]
  exact F.len (vs++[]) H1 _ _ q'
 refine wpAny_call (codeAny_mono (F.run X.A X.stack s1 H1 ⟨us,[]⟩ (us++[]) (vs++[]) _ _ hr I1.env0 (hb s1 us I1.kIn hl) (r.append .nil) q') fun rr s2 hq=>?_)
 cases rr with
 | ok fl =>
  cases fl with
  | ret u=>obtain⟨_,_,_,_,_,_,_,z⟩:=hq;exact z.elim
  | next=>exact False.elim hq
  | brk=>exact False.elim hq
  | cont=>exact False.elim hq
 | error ev =>
  obtain⟨a,C',od,H2,rfl,os,bare,un,hok,hot,hyg,hC,v,od',hO,hF,hW⟩:=hq
  cases hC
  obtain rfl:od=od':=by
   cases od <;> cases od' <;> first | rfl | cases hO <;> rfl
  have I2:Inv X pins σ H2 s2:=I1.call' os un hok bare fun b z=>nomatch z
  have sub1:∀b o,s1.heap.get? b=some o->b<s2.heap.objs.size:=fun b o q=>by
   obtain⟨o',q'⟩:=un.there b o q fun z=>nomatch z
   exact Heap.lt_size q'
  refine lvI I2 hst hfr sub1 hot fun h3 ch3 hch3 _ un3 hok3 hot3=>?_
  have I3:=Inv.hot I1 I2 hex un3 hok3 fun b hb=>(hch3 b hb).1
  obtain⟨oe3,vs3,hv3,ge3,gc3,gd3,gf3,g13,y3,u3,hh3⟩:=id hot3
  refine hH od a D pins σ H1 H2 s1 _ I1 I3 hot3 (hW a od u3 hF fun dx e=>?_)
  cases z:H1 dx with
  | none=>rfl
  | some o =>
   obtain⟨u,z'⟩:=I1.hok.get z
   rw[hyg dx e]at z';cases z'
theorem d1v {n:Str}{c:Expr}{np pos:Pos}(hs:swapsWith c (some (.Name n np)) pos.line X.env=pure false:=by rfl):y0v X [.Assign [.Name n np] c pos] c:=fun Q E pins σ H s I h =>
 wpAny_execs_cons (wpAny_Assign_Name (thn h fun _ _ z=>z.elim) hs)
end
section
variable {X:Cx}{R:VK}{E:XK}{C:Addr}{fn:Option Str}{K:PySem.W.Frag}{S:ASp}
theorem g1s {st:Stmt}{t u:TS}(h1:PSr X R st t)(h2:PSr X R st u):PSr X R st (fun D σ H=>t D σ H∨u D σ H):=fun pins s σ H D e I h=>h.elim (h1 pins s σ H D e I) (h2 pins s σ H D e I)
def g1d (t:TE):TE:=fun σ H Q=>t σ H fun _ H1=>Q .non H1
theorem t0v {x:Str}(T:Tie X C none R)(hc:X.calm=true)(hm:X.mg x=some (.ref C))(hq:PySem.W.excIn X.K C bmV "ValueError.__new__" = true){e0:Expr}{t0:TE}{np cpos pos:Pos}(ha:PE X.nox e0 t0)
  (hg:Gl X x:=by rfl) (he:starEach [e0] X.env=[(false,eval e0 X.env)]:=by rfl) (hdb:(x==("__debug__" : Str))=false:=by decide):PSr X R (.Raise (some (.Call (.Name x np) [e0] [] cpos)) none pos) (tRet (g1d t0)):=by
 intro pins s σ H D e I h
 obtain⟨tl,N,nm,q,bs,hdct,sn,sub,ab,col,dd,k0,k1,k2,k3,k5,mN,hC,hN,hni,tw⟩:=(d1t I.mod.kin hm hq).obj
 refine wpAny_Raise_call_subT (k5:=k5) (k3:=k3) (k2:=k2) (k1:=k1) (k0:=k0) (dd:=dd) (col:=col) (ab:=ab) (sub:=sub) (sn:=sn) (hdct:=hdct) (bs:=bs) (N:=N) (q:=q) (nm:=nm) (C:=C) (bm:=tl) (mN:=mN) PySem.F.excBase_ValueError (tw.hasType (by decide +kernel)) (I.ok.hd hc) (by rw[he];rfl) hni (k0f I hg hm ⟨rfl,?_⟩ hdb)
 rw[he]
 refine Calls.evalArgs_plain (Calls.spliced_cons ?_)
 refine thn (ha.nox pins s σ H (fun v H'=>D.rt .non H') I h) fun u s1 ⟨x,H1,I1,r1,q1⟩=>Calls.spliced_nil ?_
 refine⟨rfl,by show(1:Nat)<=_;decide,I1.bk _ _ hC,hN.keeps I1.bk,tw.keeps I1.bk,fun h' a mk=>?_⟩
 obtain⟨tt,g1,g2,g3⟩:=mk.there
 refine T.run (I1.kept (t':=s1.toks) mk.keeps) ⟨_,_,.none,g1,rfl,rfl,rfl,rfl,I1.back0 T.ex mk.new,?_,.inl rfl⟩ (fun _ z=>nomatch z) ⟨rfl,rfl⟩ (e▸q1)
 cases z:H1 a with
 | none=>rfl
 | some o =>
  obtain⟨u,z'⟩:=I1.hok.get z
  rw[mk.new]at z';cases z'
end
section
variable {Y:Cx}(K:PySem.W.Frag)
def rIsX (K:PySem.W.Frag)(c:V)(u:Value):List V->Hp->VK->Prop:=fun xs H Q=>∃a C od b,xs=[.ref a,c]/\H a=some (.ext (exP a C od))/\(∀dx,od=some dx->H dx≠none)/\ExIs K C/\kitOne K (.ref C) u=some b/\Q (.bl b) H
theorem a1a {pins:List (Addr×Obj)}{σ:St}{H:Hp}{s:Shared}{a C:Addr}{od:Option Addr}(I:Inv Y pins σ H s)(h:H a=some (.ext (exP a C od)))(hd:∀dx,od=some dx->H dx≠none):∃oe odo,PySem.W.InstAt s.heap a oe C odo:=by
 obtain⟨⟨oe,vs,ge,gc,gd,gf⟩,_,_⟩:=I.hok a _ h
 cases od with
 | none=>exact⟨oe,none,ge,gc,by unfold notCls;rw[gf],by rw[gd];trivial⟩
 | some dx =>
  cases z:H dx with
  | none=>exact absurd z (hd dx rfl)
  | some o =>
   obtain⟨u,z'⟩:=I.hok.get z
   exact⟨oe,some u,ge,gc,by unfold notCls;rw[gf],by rw[gd];exact z'⟩
theorem c0k {c:V}{u:Value}(rc:∀u',RelV c u'->u'=u)(hK:Y.K=K:=by rfl):i0a Y (.builtin "isinstance") (rIsX K c u):=by
 subst hK
 intro pins s σ H xs us Q I r h
 obtain⟨a,C,od,b,rfl,hH,hd,q,hk,h⟩:=h
 cases r with
 | cons r1 rr =>
  cases rr with
  | cons r2 rr =>
   cases rr
   cases (show _=Value.ref a from r1)
   rw[rc _ r2]
   obtain⟨oe,odo,it⟩:=a1a I hH hd
   exact kia_one (z0x q) I.kIn it hk (by intro z;cases z) fun tk=>⟨.bl b,H,I.tok tk,rfl,h⟩
def w0d (K:PySem.W.Frag):V->List V->Hp->VK->Prop:=fun x vs H Q=>∃(l:Addr) (bs:List Bool) (k:Bool),x = .ref l/\vs=[.bl k]/\SqL K H l (bs.map V.bl)/\Q (.int (bs.count k:Nat)) H
theorem w0s (hK:Y.K=K:=by rfl):MtR Y "list.count" (w0d K):=by
 subst hK
 intro pins s σ H x vs v us Q I rx rv h
 obtain⟨l,bs,k,rfl,rfl,hq,q⟩:=h
 cases rx
 obtain⟨u,rfl,ru⟩:=rv.one
 cases ru
 obtain⟨its,r,pl,hz⟩:=I.list hq
 obtain⟨⟨cl,dd,dt,sl⟩,n,e,c1,c2,c3⟩:=pl
 simp only at c1 c2 c3
 subst c1 c2 c3
 have all:∀ {bs:List Bool} {its:List Value},Vals (bs.map V.bl) its->its=bs.map Value.bool:=by
  intro bs
  induction bs with
  | nil=>intro its r;cases r;rfl
  | cons b bs ih=>intro its r;cases r with | cons r1 rr=>rw[ih rr,show _=Value.bool b from r1];rfl
 have ei:=all r
 subst ei
 refine call_meets PySem.F.slot_list_count ⟨_,e,rfl⟩ PySem.F.entry_list_count (PySem.F.args_list_count_2 _ _) (SeqAt.list_countAt l (bs.map Value.bool).toArray n none sl (.bool k) (isBoolOf k)) ⟨e,fun y hy=>?_,?_⟩
 ·have hy':y∈bs.map Value.bool:=by simpa using hy
  obtain⟨b,_,rfl⟩:=List.mem_map.mp hy'
  exact SeqAt.EqAt.bool_bool b k
 ·have ec:(bs.map Value.bool).toArray.toList.countP (isBoolOf k)=bs.count k:=by
   show(bs.map Value.bool).countP (isBoolOf k)=bs.count k
   rw[List.countP_map];rfl
  rw[ec]
  exact⟨.int (bs.count k:Nat),H,I.tok _,⟨s.toks,rfl⟩,q⟩
end
section
variable {K:PySem.W.Frag}{pr:Nat->Bool}{F:Fr}{σ:St}{ρ:En}{H:Hp}{th:TS}{ah:AS}{S:ASp}{ts:TA}{as:AA}{ta:TE}{a:AE}
theorem Rel.gone (r:Rel K F σ ρ H){i:Nat}(hm:∀a,¬F.pin i a):Rel K F (σ.set i none) (pt ρ i .un) H:=by
 rcases Nat.lt_or_ge i ρ.length with hi | hi
 case inr =>
  rw[s0f ρ i .un hi,List.set_eq_of_length_le (by rw[r.len];exact hi)];exact r
 have sub:∀a,b0o (σ.set i none) (pt ρ i .un) a->b0o σ ρ a:=fun a ⟨j,hj,e⟩=>by
  obtain⟨ij,hj⟩:=e0d rfl hj
  rw[List.getElem?_set_ne ij]at e
  exact⟨j,hj,e⟩
 have vis:Same (hid H (hs F σ ρ)) (hid H (hs F (σ.set i none) (pt ρ i .un))):=b0f fun a o e n=>⟨e,fun z=>n (z.imp id (sub a))⟩
 refine⟨by rw[List.length_set,g0d,r.len],r.fr,r.zl,fun a h=>r.zo a (sub a h),fun j a hj e=>?_,fun j a h=>?_,r.ml,r.ma,fun j k a hj hk ej ek=>?_,fun j=>?_⟩
 ·obtain⟨ij,hj⟩:=e0d rfl hj
  rw[List.getElem?_set_ne ij]at e
  exact r.ow j a hj e
 ·have:i≠j:=fun e=>hm a (e▸h)
  rw[List.getElem?_set_ne this];exact r.mi j a h
 ·obtain⟨nj,hj⟩:=e0d rfl hj
  obtain⟨nk,hk⟩:=e0d rfl hk
  rw[List.getElem?_set_ne nj]at ej
  rw[List.getElem?_set_ne nk]at ek
  exact r.nd j k a hj hk ej ek
 ·by_cases ij:i=j
  ·subst ij
   rw[k0z ρ i .un hi];trivial
  ·rw[b0z ρ i j _ ij,List.getElem?_set_ne ij]
   exact(r.sl j).keep vis fun _ _ _ _ e=>e
def j1p (a:AE):AE:=fun ρ q=>a ρ fun _ ρ1=>q (.d .non) ρ1
theorem z0c {t:TE}(h:TEok K t a):TEok K (g1d t) (j1p a):=by
 intro F σ ρ H q Q r ha k
 refine h F σ ρ H _ _ r ha fun r1 ρ1 v H1 h1 o=>?_
 obtain⟨r',k1,_⟩:=o.inF
 exact(k.after k1).non r' h1
def goA (i:Nat)(k:AEnds):AEnds:=⟨fun ρ=>k.nx (pt ρ i .un),k.rt,fun ρ=>k.bk (pt ρ i .un),fun ρ=>k.ct (pt ρ i .un)⟩
def exF:Option Str->R->Option (Option (List (Str×D)))
 | none,_=>some none
 | some f,r=>match r.frz with
  | .d d=>some (some [(f,d)])
  | _=>none
theorem a1h {f:Str}{r:R}{fs:Option (List (Str×D))}(h:exF (some f) r=some fs):∃d,r.frz = .d d/\fs=some [(f,d)]:=by
 unfold exF at h
 dsimp only at h
 split at h
 next d e=>cases h;exact⟨d,e,rfl⟩
 ·cases h
def c1p (C:Addr)(fn:Option Str)(i:Nat)(ah:AS)(r:R):AS:=fun k ρ=>match exF fn r with
 | some fs=>ah (goA i k) (pt ρ i (.ex C fs))
 | none=>False
def j1o (ca:AE)(ah:R->AS):AS:=fun k ρ=>ca ρ fun r ρ1=>ah r k ρ1
theorem z0k {fn:Option Str}{tH:Option Addr->Addr->TS}{aH:R->AS}(ht:TAok K ts as)
  (hh:∀(F:Fr) (σ:St) (ρ:En) (H1 H':Hp) (D:Ends) (k:AEnds) (r:R) (v:V) (a:Addr) (od:Option Addr),(∀i a,F.pin i a->pr i=true)->Rel K F σ ρ H'->InF K F σ ρ H' v r.frz->aH r k ρ->a1z K F D k->H' a=none->Fld H' fn od v->(∀dx,od=some dx->¬hs F σ ρ dx)->tH od a D σ H') :
  TSok K pr (fun D σ H=>ts σ H fun vs H1=>spA K S (vs++[]) H1 (fun v H'=>∀a od,H' a=none->Fld H' fn od v->(∀dx,od=some dx->H1 dx=none)->tH od a D σ H') E0) (j1o (i1w S as) aH):=by
 intro F σ ρ H D k hp r ha ko
 refine ht F σ ρ H _ _ r ha fun rs ρ1 vs H1 h1 r1 i1 k1=>?_
 obtain⟨hd,hS⟩:=h1
 have s:=i1.srcs
 rw[List.append_nil]
 refine⟨rs.map (d0t ρ1),(f0z F σ ρ1 H1 (vs.map some) (rs.map (d0t ρ1))).Z,_,r1.sub s hd,hS,fun rr ss' v H' hq sb no out a od hn hf hdx=>?_⟩
 have o:Out K F σ ρ1 H1 (back ρ1 rs ss') v H' rr:=by
  cases rr with
  | o i=>exact absurd rfl (no i)
  | d d =>
   obtain⟨a,b⟩:=out
   obtain⟨x,y,z⟩:=r1.back s hd a sb
   exact⟨x,y,RepD.same b z⟩
  | x sv =>
   obtain⟨a,b,c⟩:=out
   obtain⟨x,y,z⟩:=r1.back s hd a sb
   exact⟨x,y,b,c.keep z fun l o ho=>by rw[b]at ho;cases ho⟩
  | t n =>
   obtain⟨a,b⟩:=out
   obtain⟨x,y,z⟩:=r1.back s hd a sb
   exact⟨x,y,b⟩
  | n sv =>
   obtain⟨Hb,l,o,a,b,c,e1,e2,e3⟩:=out
   obtain⟨x,y,z⟩:=r1.back s hd a sb
   exact⟨Hb,l,o,x,y,b,c.keep z fun _ _ _ _ e=>e,e1,e2,e3⟩
 obtain⟨r',k',i'⟩:=o.inF
 refine hh F σ _ H1 H' D k rr v a od hp r' i' hq ko hn hf fun dx e z=>?_
 rcases z with z | z
 ·exact(r1.zl dx z).1 (hdx dx e)
 ·exact e0s r1 (k'.so z) (hdx dx e)
theorem a1p {C:Addr}{fn:Option Str}{i:Nat}(hi:pr i=false)(hh:TSok K pr th ah) :
  ∀(F:Fr) (σ:St) (ρ:En) (H1 H':Hp) (D:Ends) (k:AEnds) (r:R) (v:V) (a:Addr) (od:Option Addr),(∀i a,F.pin i a->pr i=true)->Rel K F σ ρ H'->InF K F σ ρ H' v r.frz->c1p C fn i ah r k ρ->a1z K F D k->H' a=none->Fld H' fn od v->(∀dx,od=some dx->¬hs F σ ρ dx)->b1q C i od th a D σ H':=by
 intro F σ ρ H1 H' D k r v a od hp r' i' z ko hn hf hd
 have np:=d1x hp hi
 unfold c1p at z
 split at z
 next fs ef =>
  have hx:exD K (hid (upd H' a (.ext (exP a C od))) (hs F σ ρ)) fs od:=by
   cases fn with
   | none=>cases ef;obtain⟨rfl,_⟩:=hf;trivial
   | some f =>
    obtain⟨dx,rfl,hdx⟩:=hf
    obtain⟨d,er,ef⟩:=a1h ef
    ·subst ef
     rw[er]at i'
     have na:dx≠a:=b0b hdx hn
     refine⟨[(f,v)],f0e (hd dx rfl) (by rw[a0o na];exact hdx),rfl,?_⟩
     show RepDs K _ [v] [d]
     unfold RepDs RepDs
     refine⟨RepD.same (show RepD K (hid H' (hs F σ ρ)) v d from i') (b0f fun b o e n=>⟨by rw[a0o (b0b e hn)];exact e,n⟩),trivial⟩
  have rf:=(r'.fresh (o:=.ext (exP a C od)) hn).setS (i:=i) (v:=.ref a) (s:=.ex C fs) rfl ⟨a,od,rfl,f0e (h0w r' hn) a0y,hx⟩ np
  exact hh F _ _ _ (goE i D) (goA i k) hp rf z ⟨fun σ2 ρ2 H2 q r2=>ko.nx _ _ _ q (r2.gone np),fun σ2 ρ2 H2 q r2=>ko.bk _ _ _ q (r2.gone np),fun σ2 ρ2 H2 q r2=>ko.ct _ _ _ q (r2.gone np),ko.rt⟩
 ·exact z.elim
theorem x0u {fs:Option (List (Str×D))}{od:Option Addr}{S:Addr->Prop}(h:exD K (hid H S) fs od):∀dx,od=some dx->H dx≠none:=by
 rintro dx rfl
 cases fs with
 | none=>exact h.elim
 | some fs =>
  obtain⟨ks,h1,_⟩:=h
  rw[(f0p.mp h1).2];exact fun z=>nomatch z
def aIsX (K:PySem.W.Frag)(i:Nat)(u:Value):AE:=fun ρ q=>match gt ρ i with
 | .ex C _=>∃b,ExIs K C/\kitOne K (.ref C) u=some b/\q (.d (.bl b)) ρ
 | _=>False
theorem d0z {i:Nat}{c:V}{u:Value}:TEok K (tCB (rIsX K c u) (z0g (tVar i) (z0g (tC c) tNil))) (aIsX K i u):=by
 intro F σ ρ H q Q a h b
 have s:=a.sl i
 unfold aIsX at h
 split at h
 ·rename_i C fs hg
  rw[hg]at s
  obtain⟨e,od,e1,e2,e3⟩:=s
  obtain⟨b',h1,h2,h3⟩:=h
  exact⟨.ref e,e1,e,C,od,b',rfl,(f0p.mp e2).2,x0u e3,h1,h2,b.bl a h3⟩
 ·exact h.elim
@[irreducible] def gCnt (ds:List D)(k:Bool)(q:Nat->Prop):Prop:=∃bs:List Bool,ds=bs.map D.bl/\q (bs.count k)
theorem e1q {bs:List Bool}{k:Bool}{q:Nat->Prop}(h:q (bs.count k)):gCnt (bs.map D.bl) k q:=by unfold gCnt;exact⟨bs,rfl,h⟩
theorem w0a {Hh:Hp}:∀ {bs:List Bool} {vs:List V},RepDs K Hh vs (bs.map D.bl)->vs=bs.map V.bl
 | [],[],_=>rfl
 | b::bs,v::vs,h=>by
  unfold RepDs at h
  obtain⟨h1,h2⟩:=h
  unfold RepD at h1
  rw[h1,w0a h2];rfl
 | [],_::_,h=>by unfold RepDs at h;exact h.elim
 | _::_,[],h=>by unfold RepDs at h;exact h.elim
def aCnt (a:AE)(as:AA):AE:=fun ρ q=>a ρ fun r ρ1=>match view ρ1 r.frz with
 | some (.lst ds)=>as ρ1 fun rs ρ2=>(match rs with
  | [.d (.bl k)]=>gCnt ds k fun j=>ρ1=ρ2/\q (.d (.int (j:Nat))) ρ2
  | _=>False)
 | _=>False
theorem d1a (ha:TEok K ta a)(hs':TAok K ts as):TEok K (tBM K "list" (w0d K) ta ts) (aCnt a as):=by
 intro F σ ρ H q Q r h k
 refine ha F σ ρ H _ _ r h fun r1 ρ1 x H1 h1 o1=>?_
 obtain⟨r1',k1,i1⟩:=o1.inF
 split at h1
 ·rename_i ds e
  obtain⟨l0,us0,rfl,sq0,_⟩:=c0q r1' i1 e
  refine⟨.inl ⟨rfl,_,sq0⟩,hs' F σ ρ1 H1 _ _ r1' h1 fun rs ρ2 vs H2 h2 r2 i2 k2=>?_⟩
  split at h2
  ·rename_i y
   obtain⟨z,rfl,iz⟩:=i2.one
   unfold gCnt at h2
   obtain⟨bs,rfl,e12,hq⟩:=h2
   subst e12
   obtain⟨l,us,el,sq,rd⟩:=c0q r2 (i1.keep k2) e
   rw[w0a rd]at sq
   exact⟨l,bs,y,el,by rw[iz.blv],sq,((k.after k1).after k2).int r2 hq⟩
  ·exact h2.elim
 ·exact h1.elim
end
end L2
namespace L2
open PySem PySem.Spec PyProof.Rows Builtin
end L2
namespace L2
open PySem PySem.Spec PyProof.Rows
end L2
namespace L2
open PySem PySem.Spec PyProof.Rows PySem.W
end L2
namespace L2
open PySem PySem.Spec PyProof.Rows PySem.W Builtin Builtin.ObjectAttr
end L2
namespace L2
open PySem PySem.Spec PyProof.Rows PySem.W
theorem x0s {K:PySem.W.Frag}{C:Addr}(q:excIn K C bmV "ValueError.__new__" = true):k0k K C=true:=by
 unfold excIn at q
 unfold k0k
 split at q
 next dd cd sl lk =>
  try rw[lk]
  split at q
  next C' bm k0 k1 k2 k3 n k5 em es =>
   simp only[Bool.and_eq_true,beq_iff_eq,Bool.not_eq_true']at q
   obtain⟨⟨⟨⟨⟨rfl,rfl⟩,nd⟩,tl⟩,nk⟩,ni⟩:=q
   first | (simp[em,es,nd,tl];done) | simp_all
  ·cases q
 ·cases q
end L2
namespace L2
open PySem PySem.Spec PyProof.Rows
section
variable {P:Program}{w:World}{A:Around}{R:Result->Shared->Prop}{s:Shared}
theorem n0m (elt tg iter tg2 iter2:Expr)(ifs ifs2:List Expr)(scope:Scope)(pos:Pos)(it acc:Value)(env:Env) :
  compTurn (.ListComp elt [⟨tg,iter,ifs,0⟩,⟨tg2,iter2,ifs2,0⟩] scope pos) 0 it acc env=(do
   standAt iter.pos
   match <- pyNext it with
   | none=>pure (.done .next)
   | some v =>
    letOwnedTupleGo tg it v
    assign tg env v
    let mut ok:=true
    for c in ifs do
     if ok then ok <- isTrue c env (eval c env)
    if ok then
     let x <- eval iter2 env
     standAt iter2.pos
     let x <- foldedSetIterable iter2 env x
     let _ <- runOwn (.compStart (.ListComp elt [⟨tg,iter,ifs,0⟩,⟨tg2,iter2,ifs2,0⟩] scope pos) 1 (<- holding [x] (pyIter x)) acc env) env
    again (.compLoop (.ListComp elt [⟨tg,iter,ifs,0⟩,⟨tg2,iter2,ifs2,0⟩] scope pos) 0 it acc env)):=by rfl
theorem n0l (elt tg iter tg2 iter2:Expr)(ifs ifs2:List Expr)(scope:Scope)(pos:Pos)(it acc:Value)(env:Env) :
  compTurn (.ListComp elt [⟨tg,iter,ifs,0⟩,⟨tg2,iter2,ifs2,0⟩] scope pos) 1 it acc env=(do
   standAt iter2.pos
   match <- pyNext it with
   | none=>pure (.done .next)
   | some v =>
    letOwnedTupleGo tg2 it v
    assign tg2 env v
    let mut ok:=true
    for c in ifs2 do
     if ok then ok <- isTrue c env (eval c env)
    if ok then
     (do let _ <- call (.builtin "list.append") [acc,<- eval elt env])
    again (.compLoop (.ListComp elt [⟨tg,iter,ifs,0⟩,⟨tg2,iter2,ifs2,0⟩] scope pos) 1 it acc env)):=by rfl
abbrev g1c (M:Model)(A:Around)(ifs:List Expr)(env:Env)(Q:Bool->Shared->Prop)(s:Shared):Prop :=
 wpAny M A (forIn ifs true fun c r=>if r=true then do let ok <- isTrue c env (eval c env);pure (ForInStep.yield ok)else pure (ForInStep.yield r)) Q (fun _ _=>False) s
theorem y0d {elt tg iter tg2 iter2:Expr}{ifs ifs2:List Expr}{scope:Scope}{pos:Pos}{it acc:Value}{env:Env}(J:Nat->Shared->Prop)
  (turn:∀n s,J n s->wpAny (model P w) A (pyNext it) (fun r s1=>match r with
   | none=>R (.ok .next) s1
   | some v=>wpAny (model P w) A (letOwnedTupleGo tg2 it v) (fun _ s2=>wpAny (model P w) A (assign tg2 env v) (fun _ s3 =>
     g1c (model P w) A ifs2 env (fun ok s4 =>
      if ok=true then wpAny (model P w) A (eval elt env) (fun x s5=>wpAny (model P w) A (call (.builtin "list.append") [acc,x]) (fun _ s6=>∃m,m<n/\J m s6) (fun _ _=>False) s5) (fun _ _=>False) s4
      else ∃m,m<n/\J m s4) s3) (fun _ _=>False) s2) (fun _ _=>False) s1) (fun _ _=>False) s)
  (n:Nat) (h:J n s):codeAny (model P w) A (.compLoop (.ListComp elt [⟨tg,iter,ifs,0⟩,⟨tg2,iter2,ifs2,0⟩] scope pos) 1 it acc env) R s:=by
 have no:∀ {α:Type} {t:Sem α} {Q Q':α->Shared->Prop} {E:Value->Shared->Prop} {s:Shared},wpAny (model P w) A t Q (fun _ _=>False) s->(∀a s,Q a s->Q' a s)->wpAny (model P w) A t Q' E s :=
  fun h hq=>wpAny_mono h hq fun _ _ f=>f.elim
 refine codeAny_loop rfl J (fun n s hJ=>?_) n h
 show wpAny _ A ((compTurn (.ListComp elt [⟨tg,iter,ifs,0⟩,⟨tg2,iter2,ifs2,0⟩] scope pos) 1 it acc env).onRaise (fun x=>do noteFrame x env;theTreesLotGoes x)) _ _ s
 refine wpAny_noted ?_
 rw[n0l]
 refine wpAny_bind (wpAny_standAt (wpAny_bind (no (turn n s hJ) fun r s1 h1=>?_)))
 cases r with
 | none=>exact wpAny_pure h1
 | some v =>
  refine wpAny_bind (no h1 fun _ s2 h2=>wpAny_bind (no h2 fun _ s3 h3=>wpAny_bind (no h3 fun ok s4 h4=>?_)))
  cases ok with
  | false=>exact wpAny_pure ⟨rfl,h4⟩
  | true=>exact wpAny_bind (wpAny_bind (no h4 fun x s5 h5=>wpAny_bind (no h5 fun _ s6 h6=>wpAny_pure (wpAny_pure ⟨rfl,h6⟩))))
theorem y0e {elt tg iter tg2 iter2:Expr}{ifs ifs2:List Expr}{scope:Scope}{pos:Pos}{it acc:Value}{env:Env}(J:Nat->Shared->Prop)(hf:∀x,foldedSetIterable iter2 env x=pure x)
  (turn:∀n s,J n s->wpAny (model P w) A (pyNext it) (fun r s1=>match r with
   | none=>R (.ok .next) s1
   | some v=>wpAny (model P w) A (letOwnedTupleGo tg it v) (fun _ s2=>wpAny (model P w) A (assign tg env v) (fun _ s3 =>
     g1c (model P w) A ifs env (fun ok s4 =>
      if ok=true then wpAny (model P w) A (eval iter2 env) (fun x s5=>wpAny (model P w) A (pyIter x) (fun itv s6 =>
       codeAny (model P w) A (.compStart (.ListComp elt [⟨tg,iter,ifs,0⟩,⟨tg2,iter2,ifs2,0⟩] scope pos) 1 itv acc env) (fun r s7=>r = .ok .next/\∃m,m<n/\J m s7) s6) (fun _ _=>False) s5) (fun _ _=>False) s4
      else ∃m,m<n/\J m s4) s3) (fun _ _=>False) s2) (fun _ _=>False) s1) (fun _ _=>False) s)
  (n:Nat) (h:J n s):codeAny (model P w) A (.compLoop (.ListComp elt [⟨tg,iter,ifs,0⟩,⟨tg2,iter2,ifs2,0⟩] scope pos) 0 it acc env) R s:=by
 have no:∀ {α:Type} {t:Sem α} {Q Q':α->Shared->Prop} {E:Value->Shared->Prop} {s:Shared},wpAny (model P w) A t Q (fun _ _=>False) s->(∀a s,Q a s->Q' a s)->wpAny (model P w) A t Q' E s :=
  fun h hq=>wpAny_mono h hq fun _ _ f=>f.elim
 refine codeAny_loop rfl J (fun n s hJ=>?_) n h
 show wpAny _ A ((compTurn (.ListComp elt [⟨tg,iter,ifs,0⟩,⟨tg2,iter2,ifs2,0⟩] scope pos) 0 it acc env).onRaise (fun x=>do noteFrame x env;theTreesLotGoes x)) _ _ s
 refine wpAny_noted ?_
 rw[n0m]
 refine wpAny_bind (wpAny_standAt (wpAny_bind (no (turn n s hJ) fun r s1 h1=>?_)))
 cases r with
 | none=>exact wpAny_pure h1
 | some v =>
  refine wpAny_bind (no h1 fun _ s2 h2=>wpAny_bind (no h2 fun _ s3 h3=>wpAny_bind (no h3 fun ok s4 h4=>?_)))
  cases ok with
  | false=>exact wpAny_pure ⟨rfl,h4⟩
  | true =>
   refine wpAny_bind (no h4 fun x s5 h5=>wpAny_bind (wpAny_standAt (wpAny_bind (wpAny_of_eq (hf x) (wpAny_bind (wpAny_holding (no h5 fun itv s6 h6=>?_)))))))
   refine wpAny_bind (wpAny_runOwn (codeAny_mono h6 fun r s7 h7=>?_))
   obtain⟨rfl,h7⟩:=h7
   exact wpAny_pure ⟨rfl,h7⟩
theorem l0c {elt tg iter tg2 iter2:Expr}{ifs ifs2:List Expr}{scope:Scope}{pos:Pos}{it acc:Value}{env:Env}
  (h0:codeAny (model P w) A (.compLoop (.ListComp elt [⟨tg,iter,ifs,0⟩,⟨tg2,iter2,ifs2,0⟩] scope pos) 1 it acc env) R s)
  (h:wpAny (model P w) A (pyIter it) (fun it' s'=>codeAny (model P w) A (.compLoop (.ListComp elt [⟨tg,iter,ifs,0⟩,⟨tg2,iter2,ifs2,0⟩] scope pos) 1 it' acc env) R s') (notedBy (model P w) A env fun x s'=>R (.error x) s') s) :
  codeAny (model P w) A (.compStart (.ListComp elt [⟨tg,iter,ifs,0⟩,⟨tg2,iter2,ifs2,0⟩] scope pos) 1 it acc env) R s:=by
 refine codeAny_of_tree ?_
 show wpAny _ _ ((compStart (.ListComp elt [⟨tg,iter,ifs,0⟩,⟨tg2,iter2,ifs2,0⟩] scope pos) 1 it acc env).onRaise (fun x=>do noteFrame x env;standAt theWindowsPlace)) _ _ s
 refine wpAny_notedAt ?_
 unfold compStart
 show wpAny _ _ (ask>>=_) _ _ s
 refine wpAny_bind (wpAny_askSetting (wpAny_ite ?_))
 split
 ·first
   | exact wpAny_bind (wpAny_pure (wpAny_pure (And.intro rfl h0)))
   | exact wpAny_pure (And.intro rfl h0)
 ·first
   | exact wpAny_bind (wpAny_rule (wpAny_bind (wpAny_standAt (wpAny_bind (wpAny_mono h (fun it' s' h'=>wpAny_pure (And.intro rfl h')) fun _ _ x=>x)))))
   | (refine wpAny_bind (wpAny_rule ?_);show wpAny _ _ (standAt iter2.pos>>=_) _ _ s;exact wpAny_bind (wpAny_standAt (wpAny_bind (wpAny_mono h (fun it' s' h'=>wpAny_pure (And.intro rfl h')) fun _ _ x=>x))))
end
def f1i (J:It)(g:TG)(tc:TT)(te:TE)(N:List V->Hp->Prop)(σ:St)(ys0:List V)(H1:Hp):Prop:=∃W:Nat->Nat->List V->Hp->Prop,(∃m,W 0 m ys0 H1)/\∀i m ys H,W i m ys H ->
 (J.stop i H/\N ys H) ∨
 (J.go i H/\ys.length<sizeLine/\∃N2:List V->Hp->Prop,(∀zs H',N2 zs H'->∃m',m'<m/\W (i+1) m' zs H')/\∀x H',J.yld i H x H'->g x σ H' fun σ2 H2=>(σ2.length=σ.length/\∀(j:Nat) v,σ[j]? = some (some v)->σ2[j]? = some (some v))/\tc σ2 H2 fun b H3 =>
  if b=true then te σ2 H3 fun v H4=>N2 (ys++[v]) H4 else N2 ys H3)
def c1q (J:It)(n:Nat)(js:List Nat)(g:TG)(tc:TT)(wi2:TI)(g2:TG)(tc2:TT)(te:TE)(Q:VK)(σ:St)(H1:Hp):Prop:=∃W:Nat->Nat->List V->Hp->Prop,(∃m,W 0 m [] H1)/\∀i m ys H,W i m ys H ->
 (J.stop i H/\ys.length<=sizeLine/\∀l,H l=none->Q (.ref l) (upd H l (.lst ys))) ∨
 (J.go i H/\∃N:List V->Hp->Prop,(∀zs H',N zs H'->∃m',m'<m/\W (i+1) m' zs H')/\∀x H',J.yld i H x H'->g x (bst n σ js) H' fun σ2 H2=>σ2.drop n=capt σ js/\tc σ2 H2 fun b H3 =>
  if b=true then wi2 σ2 H3 fun J2 H4=>f1i J2 g2 tc2 te N σ2 ys H4 else N ys H3)
def b1p (n:Nat)(js:List Nat)(wi:TI)(g:TG)(tc:TT)(wi2:TI)(g2:TG)(tc2:TT)(te:TE):TE:=fun σ H Q=>wi σ H fun J H1=>c1q J n js g tc wi2 g2 tc2 te Q σ H1
section
variable {Y:Cx}
theorem u0l {elt tg iter tg2 iter2:Expr}{ifs ifs2:List Expr}{scope:Scope}{pos:Pos}{g2:TG}{tc2:TT}{te:TE}{N:List V->Hp->Prop}{D:Addr}{pl:List (Addr×Obj)}{σ:St}{itv:Value}{ys:List V}{its:List Value}{k:Nat}{s:Shared}
  {RR:Result->Shared->Prop} (xe:Y.xe=fun _ _=>False) (hc:Y.calm=true) (hg:PG Y tg2 g2) (ht:PTs Y ifs2 tc2) (he:PE Y elt te)
  (szD:Y.s₀.heap.objs.size<=D) (neDL:D≠Y.env.locals) (notFs:D∉Y.fs) (clB:∀x d,Y.env.cells.lookup x=some d->d≠D) (plD:∀p∈Y.pn++pl,p.1≠D)
  (h:PIE Y ((D,{cls:=.type "list",data:=.seq its.toArray k})::pl) σ tg2 (fun J H1=>f1i J g2 tc2 te N σ ys H1) itv s) (r0:Vals ys its)
  (hR:∀zs its' k' H' s',Inv Y pl σ H' s'->Vals zs its'->s'.heap.get? D=some {cls:=.type "list",data:=.seq its'.toArray k'}->H' D=none->N zs H'->RR (.ok .next) s') :
  codeAny (model Y.prog Y.w) Y.A (.compStart (.ListComp elt [⟨tg,iter,ifs,0⟩,⟨tg2,iter2,ifs2,0⟩] scope pos) 1 itv (.ref D) Y.env) RR s:=by
 obtain⟨it,fp,tn,J,H2,rfl,I2,T,st2,f2,W,⟨m0,w0⟩,turn⟩:=h
 have plN:∀p∈pl,p.1≠D:=fun p hp=>plD p (List.mem_append_right _ hp)
 have fpD:∀b∈fp,b≠D:=fun b hb=>((f2 b hb).2.2.2.2.2 (D,{cls:=.type "list",data:=.seq its.toArray k}) (List.mem_append_right _ (List.mem_cons_self ..))).symm
 have p0:=I2.pin (D,{cls:=.type "list",data:=.seq its.toArray k}) (List.mem_append_right _ (List.mem_cons_self ..))
 have f2':∀(its':List Value) (k':Nat) {H':Hp},(∀b∈fp,H' b=none)->∀b∈fp,FpOk Y ((D,{cls:=.type "list",data:=.seq its'.toArray k'})::pl) H' b:=fun its' k' {H'} hn b hb=>by
  obtain⟨f0,f1,f3,f4,f5,f6⟩:=f2 b hb
  refine⟨hn b hb,f1,f3,f4,f5,fun p hp=>?_⟩
  rcases List.mem_append.mp hp with z | z
  ·exact f6 p (List.mem_append_left _ z)
  ·rcases List.mem_cons.mp z with z | z
   ·rw[z];exact(fpD b hb).symm
   ·exact f6 p (List.mem_append_right _ (List.mem_cons_of_mem _ z))
 have loop:codeAny (model Y.prog Y.w) Y.A (.compLoop (.ListComp elt [⟨tg,iter,ifs,0⟩,⟨tg2,iter2,ifs2,0⟩] scope pos) 1 (.ref it) (.ref D) Y.env) RR s:=by
  refine y0d (fun n s'=>∃(i:Nat) (ys:List V) (its:List Value) (k:Nat) (H':Hp),Inv Y pl σ H' s'/\tn i s'.heap/\(∀b∈fp,H' b=none)/\H' D=none/\Vals ys its /\
   s'.heap.get? D=some {cls:=.type "list",data:=.seq its.toArray k}/\W i n ys H') ?_ m0 ⟨0,ys,its,k,H2,I2.pins_of fun p hp=>I2.pin p (List.mem_append_right _ (List.mem_cons_of_mem _ hp)),st2,fun b hb=>(f2 b hb).1,p0.2.1,r0,p0.1,w0⟩
  rintro n s3 ⟨i,ys,its,k,H3,I3,st3,fr3,hD3,r3,g3,w3⟩
  have I3p:Inv Y ((D,{cls:=.type "list",data:=.seq its.toArray k})::pl) σ H3 s3:=I3.pins_of fun p hp=>by
   rcases List.mem_cons.mp hp with z | z
   ·subst z
    exact⟨g3,hD3,neDL,notFs,fun v z=>by cases z⟩
   ·exact I3.pin p (List.mem_append_right _ z)
  have f3:=f2' its k fr3
  rcases turn i n ys H3 w3 with⟨stop,qn⟩ | ⟨go,hz,N2,hN,step⟩
  ·refine thn (T.done Y rfl rfl rfl hc i _ s3 _ H3 (fun _ _=>False) I3p f3 st3 stop) fun r s4 ⟨hr,I4⟩=>?_
   subst hr
   have g4:=I4.pin (D,{cls:=.type "list",data:=.seq its.toArray k}) (List.mem_append_right _ (List.mem_cons_self ..))
   exact hR ys its k H3 s4 (I4.pins_of fun p hp=>I4.pin p (List.mem_append_right _ (List.mem_cons_of_mem _ hp))) r3 g4.1 hD3 qn
  ·refine thn (T.item Y rfl rfl rfl hc i _ s3 _ H3 (fun _ _=>False) I3p f3 st3 go) fun r s4 ⟨u,hr,h4⟩=>?_
   subst hr
   refine thn h4 fun _ s5 ⟨x,H5,I5,r5,y5,st5,fr5⟩=>?_
   have I5':=I5.pinned (f2' its k fr5) (T.obj _ _ st5)
   refine thn (xe▸hg _ s5 _ H5 x u _ I5' r5 (step x H5 y5)) fun _ s6 ⟨σ6,H6,I6,⟨l6,d6⟩,q6⟩=>?_
   refine thn (xe▸ht _ s6 σ6 H6 _ I6 q6) fun ok s7 ⟨H7,I7,q7⟩=>?_
   have after:∀ {s8:Shared} {H8:Hp},Inv Y ((D,{cls:=.type "list",data:=.seq its.toArray k})::pl++g0f fp s5.heap) σ6 H8 s8 ->
     s8.heap.get? D=some {cls:=.type "list",data:=.seq its.toArray k}/\H8 D=none/\tn (i+1) s8.heap/\(∀b∈fp,H8 b=none)/\Inv Y pl σ H8 s8:=fun{s8 H8} I8=>by
    have p8:=I8.pin (D,{cls:=.type "list",data:=.seq its.toArray k}) (List.mem_append_right _ (List.mem_append_left _ (List.mem_cons_self ..)))
    refine⟨p8.1,p8.2.1,T.keep _ _ _ st5 fun b hb o e=>(I8.pin (b,o) (List.mem_append_right _ (List.mem_append_right _ (c0l hb e)))).1,fun b hb=>?_,?_⟩
    ·obtain⟨o,e,_⟩:=T.obj _ _ st5 b hb
     exact(I8.pin (b,o) (List.mem_append_right _ (List.mem_append_right _ (c0l hb e)))).2.1
    ·exact(I8.pins_of (pins':=pl) fun p hp=>I8.pin p (List.mem_append_right _ (List.mem_append_left _ (List.mem_cons_of_mem _ hp)))).weak l6.symm d6
   cases ok with
   | false =>
    rw[if_neg Bool.false_ne_true]at q7 ⊢
    obtain⟨m',hm,w7⟩:=hN _ _ q7
    obtain⟨a1,a2,a3,a4,a5⟩:=after I7
    exact⟨m',hm,i+1,ys,its,k,H7,a5,a3,a4,a2,r3,a1,w7⟩
   | true =>
    rw[if_pos rfl]at q7 ⊢
    refine thn (xe▸he _ s7 σ6 H7 _ I7 q7) fun u8 s8 ⟨v8,H8,I8,r8,n8⟩=>?_
    obtain⟨m',hm,w8⟩:=hN _ _ n8
    obtain⟨a1,a2,a3,a4,a5⟩:=after I8
    have hsz:its.toArray.size<sizeLine:=by rw[List.size_toArray,<- r3.length];exact hz
    refine call_meets F.slot_list_append ⟨_,a1,rfl⟩ F.entry_list_append (F.args_list_append_2 _ _) (PySem.list_append D its.toArray k u8 (Nat.le_of_lt hsz)) ⟨a1,?_⟩
    have q9:=PySem.IsL.update a1 (fun xs=>xs.push u8)
    have sb:Heap.SameBut D s8.heap (s8.heap.update D (Obj.mapSeq fun xs=>xs.push u8)):=Heap.SameBut.update ..
    have I9:=a5.young sb a2 szD neDL clB plD
    have fin:∃k',(s8.heap.update D (Obj.mapSeq fun xs=>xs.push u8)).get? D=some {cls:=.type "list",data:=.seq (its++[u8]).toArray k'}:=⟨_,by
     rw[show(its++[u8]).toArray=its.toArray.push u8 by simp]
     exact q9⟩
    obtain⟨k',fin⟩:=fin
    exact⟨m',hm,i+1,ys++[v8],its++[u8],k',H8,I9,T.keep _ _ _ a3 (fun b hb o e=>(sb.2 b (fpD b hb)).trans e),a4,a2,r3.append (.cons r8 .nil),fin,w8⟩
 exact l0c loop (T.self _ 0 _ _ _ st2 loop)
end
section
variable {X:Cx}
theorem r0q {elt tg iter tg2 iter2:Expr}{ifs ifs2:List Expr}{scope:Scope}{pos:Pos}{own:List Str}{js:List Nat}{g g2:TG}{tc tc2:TT}{wi2:TI}{te:TE}{Q:VK}{pins:List (Addr×Obj)}{σ:St}{s2:Shared}{itv:Value}{E:Value->Shared->Prop}
  {RR:Value->Addr->Result->Shared->Prop} (hc:X.calm=true) (B:Blk X scope own js) (hg:∀s H C fp,(own++capN X.N js).Nodup->PG (blk X scope (own++capN X.N js) s H C fp) tg g) (ht:∀s H C fp,PTs (blk X scope (own++capN X.N js) s H C fp) ifs tc)
  (hi2:∀s H C fp,PI (blk X scope (own++capN X.N js) s H C fp) tg2 iter2 wi2) (hg2:∀s H C fp,(own++capN X.N js).Nodup->PG (blk X scope (own++capN X.N js) s H C fp) tg2 g2) (ht2:∀s H C fp,PTs (blk X scope (own++capN X.N js) s H C fp) ifs2 tc2) (hs2:∀s H C fp x,foldedSetIterable iter2 (blk X scope (own++capN X.N js) s H C fp).env x=pure x)
  (he:∀s H C fp,PE (blk X scope (own++capN X.N js) s H C fp) elt te)
  (h:PIE X pins σ tg (fun J H1=>c1q J own.length js g tc wi2 g2 tc2 te Q σ H1) itv s2)
  (hR:∀C acc s',y0w X pins σ Q C acc s'->RR acc C (.ok .next) s') :
  wpAny (model X.prog X.w) X.A (newList []) (fun acc s3=>wpAny (model X.prog X.w) X.A (newFunctionEnv scope X.env.globals (d0k scope X.env) [] X.env.qual none .none (some X.env)) (fun cenv s4 =>
   codeAny (model X.prog X.w) X.A (.compStart (.ListComp elt [⟨tg,iter,ifs,0⟩,⟨tg2,iter2,ifs2,0⟩] scope pos) 0 itv acc {cenv with scope:=relabel scope X.env}) (RR acc cenv.locals) s4) E s3) E s2:=by
 obtain⟨it,fp,tn,J,H2,rfl,I2,T,st2,f2,W,⟨m0,w0⟩,turn⟩:=h
 refine wpAny_newObj_type (wpAny_newFunctionEnv B.nocell (by intro y hy;simp at hy) (fun h1 hns1 hsb1=>?_) B.kind)
 generalize hPu:s2.heap.push {cls:=.type "list",dict:=none,data:=.seq ([]:List Value).toArray}=Pu at hns1 hsb1 ⊢
 dsimp only at hns1 hsb1 ⊢
 have hDC:Pu.objs.size=s2.heap.objs.size+1:=by rw[<- hPu,Heap.size_push]
 generalize hD:s2.heap.objs.size=D at hDC ⊢
 have gD:Pu.get? D=some {cls:=.type "list",dict:=none,data:=.seq ([]:List Value).toArray}:=by
  rw[<- hPu,<- hD];exact Heap.get?_push_size _ rfl
 generalize hC:Pu.objs.size=C at hns1 hsb1 hDC ⊢
 have ltDC:D<C:=by rw[hDC];exact Nat.lt_succ_self D
 have neDC:D≠C:=Nat.ne_of_lt ltDC
 have keep1:∀b o,s2.heap.get? b=some o->h1.get? b=some o:=fun b o e=>by
  have hb:b<D:=by rw[<- hD];exact Heap.lt_size e
  have hb2:b≠C:=Nat.ne_of_lt (Nat.lt_trans hb ltDC)
  refine(hsb1.2 b hb2).trans (Heap.get?_push_of_some _ ?_)
  rw[<- hPu]
  exact Heap.get?_push_of_some _ e
 have gD1:h1.get? D=some {cls:=.type "list",dict:=none,data:=.seq ([]:List Value).toArray}:=(hsb1.2 D neDC).trans (Heap.get?_push_of_some _ gD)
 have szD:s2.heap.objs.size<=D:=Nat.le_of_eq hD
 have szC:s2.heap.objs.size<=C:=Nat.le_trans szD (Nat.le_of_lt ltDC)
 have old:∀ {b:Addr},b<s2.heap.objs.size->b≠D/\b≠C:=fun hb=>⟨Nat.ne_of_lt (Nat.lt_of_lt_of_le hb szD),Nat.ne_of_lt (Nat.lt_of_lt_of_le hb szC)⟩
 have fpo:∀b∈fp,∃o,s2.heap.get? b=some o:=fun b hb=>let ⟨o,e,_⟩:=T.obj 0 _ st2 b hb;⟨o,e⟩
 have fpD:∀b∈fp,b≠D/\b≠C:=fun b hb=>by
  obtain⟨o,e⟩:=fpo b hb
  exact old (Heap.lt_size e)
 have clD:∀x d,X.env.cells.lookup x=some d->d≠D/\d≠C:=fun x d e=>by
  obtain⟨v,o,ho,_⟩:=I2.cell x d e
  exact old (Heap.lt_size ho)
 have pinD:∀p∈X.pn++pins,p.1≠D/\p.1≠C:=fun p hp=>by
  exact old (Heap.lt_size (I2.pin p hp).1)
 have locD:D≠X.env.locals/\C≠X.env.locals:=by
  exact⟨(old I2.lt).1.symm,(old I2.lt).2.symm⟩
 let Y:=blk X scope (own++capN X.N js) s2 H2 C fp
 have IB:Inv Y [] (bst own.length σ js) H2 {s2 with heap:=h1,toks:=s2.toks+([]:List (Str×Value)).length}:=y0l B I2 f2 fpo szC hns1 keep1
 have fpB:∀ {H':Hp} {pl:List (Addr×Obj)},(∀b∈fp,H' b=none)->(∀p∈pl,p.1=D)->∀b∈fp,FpOk Y pl H' b:=fun{H' pl} hn hp b hb=>by
  obtain⟨f0,f1,f3,f4,f5,f6⟩:=f2 b hb
  refine⟨hn b hb,(fpD b hb).2,fun z=>?_,.inl hb,fun x c e=>f5 x c (d0n e),fun p q=>?_⟩
  ·rcases List.mem_cons.mp (I2.stkSub b z)with z | z
   ·exact f1 z
   ·exact f3 z
  ·have q':p∈pl:=by simpa [Y,blk] using q
   rw[hp p q']
   exact(fpD b hb).1.symm
 have clB:∀x d,Y.env.cells.lookup x=some d->d≠D:=fun x d e=>(clD x d (d0n e)).1
 have notFs:D∉Y.fs:=fun z=>by
  obtain⟨_,o,ho,_⟩:=IB.ok.funs.mem z
  exact(old (Heap.lt_size (show s2.heap.get? D=some o from ho))).1 rfl
 have loop:∀s3:Shared,s3={s2 with heap:=h1,toks:=s2.toks+([]:List (Str×Value)).length} ->
   codeAny (model X.prog X.w) X.A (.compLoop (.ListComp elt [⟨tg,iter,ifs,0⟩,⟨tg2,iter2,ifs2,0⟩] scope pos) 0 (.ref it) (.ref D) (compEnvC scope (d0k scope X.env) C X.env)) (RR (.ref D) C) s3:=by
  rintro s3 rfl
  refine y0e (fun n s'=>∃(i:Nat) (ys:List V) (its:List Value) (k:Nat) (H':Hp),Inv Y [] (bst own.length σ js) H' s'/\tn i s'.heap/\(∀b∈fp,H' b=none)/\H' D=none/\Vals ys its /\
   s'.heap.get? D=some {cls:=.type "list",data:=.seq its.toArray k}/\W i n ys H') (hs2 s2 H2 C fp) ?_ m0 ⟨0,[],[],0,H2,IB,T.keep 0 _ _ st2 (fun b hb o e=>keep1 b o e),fun b hb=>(f2 b hb).1,I2.hok.fresh szD,.nil,gD1,w0⟩
  rintro n s3 ⟨i,ys,its,k,H3,I3,st3,fr3,hD3,r3,g3,w3⟩
  have I3p:Inv Y [(D,{cls:=.type "list",data:=.seq its.toArray k})] (bst own.length σ js) H3 s3:=I3.pins_of fun p hp=>by
   have e:p=(D,{cls:=.type "list",data:=.seq its.toArray k}):=by simpa using hp
   subst e
   exact⟨g3,hD3,neDC,notFs,fun v z=>by cases z⟩
  have f3:∀b∈fp,FpOk Y [(D,{cls:=.type "list",data:=.seq its.toArray k})] H3 b:=fpB fr3 fun p hp=>by
   have e:p=(D,{cls:=.type "list",data:=.seq its.toArray k}):=by simpa using hp
   rw[e]
  rcases turn i n ys H3 w3 with⟨stop,hz,qn⟩ | ⟨go,N,hN,step⟩
  ·refine thn (T.done Y rfl rfl rfl hc i _ s3 _ H3 (fun _ _=>False) I3p f3 st3 stop) fun r s4 ⟨hr,I4⟩=>?_
   subst hr
   refine hR C _ s4 ?_
   have g4:=(I4.pin (D,{cls:=.type "list",data:=.seq its.toArray k}) (by simp[Y,blk])).1
   obtain⟨m,hn4,_⟩:=id I4.loc
   have un:Un (frs X.stack) fp H2 H3 s2.heap s4.heap:=I4.base
   have I5:Inv X pins σ H3 s4:=I2.call' I4.os un I4.hok I4.bare fun b hb=>let ⟨_,b1,_,b3,b4,b5⟩:=f2 b hb;⟨b3,b1,b4,b5⟩
   have I6:=I5.track (ys:=ys) (its:=its) (n:=k) hD3 (Nat.le_trans I2.sz szD) locD.1 (fun x d e=>(clD x d e).1) (fun p hp=>(pinD p hp).1) hz r3 g4
   refine⟨D,_,m,rfl,hn4,I6,?_,Nat.le_trans I2.sz szC,locD.2,fun x d e=>(clD x d e).2,fun p hp=>(pinD p hp).2,qn D hD3⟩
   rw[a0o (Ne.symm neDC)]
   exact I4.free
  ·refine thn (T.item Y rfl rfl rfl hc i _ s3 _ H3 (fun _ _=>False) I3p f3 st3 go) fun r s4 ⟨u,hr,h4⟩=>?_
   subst hr
   refine thn h4 fun _ s5 ⟨x,H5,I5,r5,y5,st5,fr5⟩=>?_
   have f5:∀b∈fp,FpOk Y [(D,{cls:=.type "list",data:=.seq its.toArray k})] H5 b:=fun b hb=>⟨fr5 b hb,(f3 b hb).2⟩
   have I5':=I5.pinned f5 (T.obj _ _ st5)
   refine thn (hg s2 H2 C fp B.nd _ s5 _ H5 x u _ I5' r5 (step x H5 y5)) fun _ s6 ⟨σ6,H6,I6,d6,q6⟩=>?_
   refine thn (ht s2 H2 C fp _ s6 σ6 H6 _ I6 q6) fun ok s7 ⟨H7,I7,q7⟩=>?_
   have after:∀ {s8:Shared} {H8:Hp} {its:List Value} {k:Nat},Inv Y ([(D,{cls:=.type "list",data:=.seq its.toArray k})]++g0f fp s5.heap) σ6 H8 s8 ->
     s8.heap.get? D=some {cls:=.type "list",data:=.seq its.toArray k}/\H8 D=none/\tn (i+1) s8.heap/\(∀b∈fp,H8 b=none)/\Inv Y [] (bst own.length σ js) H8 s8:=fun{s8 H8 its k} I8=>by
    have p8:=I8.pin (D,{cls:=.type "list",data:=.seq its.toArray k}) (by simp[Y,blk])
    refine⟨p8.1,p8.2.1,T.keep _ _ _ st5 fun b hb o e=>(I8.pin (b,o) (List.mem_append_right _ (List.mem_append_right _ (c0l hb e)))).1,fun b hb=>?_,?_⟩
    ·obtain⟨o,e,_⟩:=T.obj _ _ st5 b hb
     exact(I8.pin (b,o) (List.mem_append_right _ (List.mem_append_right _ (c0l hb e)))).2.1
    ·refine(I8.pins_of (pins':=[]) fun p hp=>absurd hp (by simp[Y,blk])).weak ?_ fun j v e=>?_
     ·rw[I8.len,h0k]
      show _=(own++capN X.N js).length
      unfold capN
      simp
     ·rcases Nat.lt_or_ge j own.length with z | z
      ·exfalso
       unfold bst at e
       rw[List.getElem?_append_left (by simpa using z),List.getElem?_replicate]at e
       split at e <;> cases e
      ·unfold bst at e
       rw[List.getElem?_append_right (by simpa using z),List.length_replicate,<- d6,List.getElem?_drop]at e
       rw[<- e]
       congr 1
       omega
   cases ok with
   | false =>
    rw[if_neg Bool.false_ne_true]at q7 ⊢
    obtain⟨m',hm,w7⟩:=hN _ _ q7
    obtain⟨a1,a2,a3,a4,a5⟩:=after I7
    exact⟨m',hm,i+1,ys,its,k,H7,a5,a3,a4,a2,r3,a1,w7⟩
   | true =>
    rw[if_pos rfl]at q7 ⊢
    refine thn (hi2 s2 H2 C fp _ s7 σ6 H7 _ I7 q7) fun v8 s8 h8=>thn h8 fun itv s9 h9=>?_
    refine u0l (Y:=Y) (pl:=g0f fp s5.heap) rfl hc (hg2 s2 H2 C fp B.nd) (ht2 s2 H2 C fp) (he s2 H2 C fp) szD neDC notFs clB (fun p hp=>?_) h9 r3 fun zs its' k' H' s' I' r' g' d' n'=>⟨rfl,?_⟩
    ·have hp':p∈g0f fp s5.heap:=by simpa [Y,blk] using hp
     exact(fpD p.1 (o0t hp').1).1
    ·obtain⟨m',hm,w8⟩:=hN _ _ n'
     have I'p:Inv Y ([(D,{cls:=.type "list",data:=.seq its'.toArray k'})]++g0f fp s5.heap) σ6 H' s':=I'.pins_of fun p hp=>by
      rcases List.mem_append.mp hp with z | z
      ·have e:p=(D,{cls:=.type "list",data:=.seq its'.toArray k'}):=by simpa using z
       subst e
       exact⟨g',d',neDC,notFs,fun v z=>by cases z⟩
      ·exact I'.pin p (List.mem_append_right _ z)
     obtain⟨a1,a2,a3,a4,a5⟩:=after I'p
     exact⟨m',hm,i+1,zs,its',k',H',a5,a3,a4,d',r',g',w8⟩
 exact codeAny_compStart_list (loop _ rfl) (T.self _ 0 _ _ _ (T.keep 0 _ _ st2 fun b hb o e=>keep1 b o e) (loop _ rfl))
theorem z0v {elt tg iter tg2 iter2:Expr}{ifs ifs2:List Expr}{scope:Scope}{pos:Pos}(own:List Str)(js:List Nat){wi wi2:TI}{g g2:TG}{tc tc2:TT}{te:TE}(hc:X.calm=true)(B:Blk X scope own js)(hi:PI X tg iter wi)
  (hg:∀s H C fp,(own++capN X.N js).Nodup->PG (blk X scope (own++capN X.N js) s H C fp) tg g) (ht:∀s H C fp,PTs (blk X scope (own++capN X.N js) s H C fp) ifs tc)
  (hi2:∀s H C fp,PI (blk X scope (own++capN X.N js) s H C fp) tg2 iter2 wi2) (hg2:∀s H C fp,(own++capN X.N js).Nodup->PG (blk X scope (own++capN X.N js) s H C fp) tg2 g2) (ht2:∀s H C fp,PTs (blk X scope (own++capN X.N js) s H C fp) ifs2 tc2) (he:∀s H C fp,PE (blk X scope (own++capN X.N js) s H C fp) elt te)
  (hs:∀x,foldedSetIterable iter X.env x=pure x:=by intro _;rfl) (hs2:∀s H C fp x,foldedSetIterable iter2 (blk X scope (own++capN X.N js) s H C fp).env x=pure x:=by intros;rfl):PE X (.ListComp elt [⟨tg,iter,ifs,0⟩,⟨tg2,iter2,ifs2,0⟩] scope pos) (b1p own.length js wi g tc wi2 g2 tc2 te):=by
 intro pins s σ H Q I h
 have hcl:closureFor scope X.env=pure (d0k scope X.env):=d0h fun x hx hf=>I.ok.has x.1 (B.free x hx hf)
 rw[eval_ListComp]
 refine wpAny_comprehension_free (use:=none) rfl hs hcl B.kind B.names (thn (hi pins s σ H _ I h) fun v s1 h1=>thn h1 fun itv s2 h2=>?_)
 refine r0q (RR:=fun acc C=>compPost (model X.prog X.w) X.A X.xe none (EP X pins σ Q) acc C) hc B hg ht hi2 hg2 ht2 hs2 he h2 fun C acc s' hb=>?_
 obtain⟨D,H',m,rfl,hn,I',c1,c2,c3,c4,c5,q⟩:=hb
 exact⟨m,hn,fun h' hs'=>⟨.ref D,H',I'.young hs' c1 c2 c3 c4 c5,rfl,q⟩⟩
end
def h0j (n2:Nat)(c:En->Prop)(g:AG)(tc:AT)(te:AE)(k:List D->En->Prop):List D->List D->En->Prop
 | [],acc,ρ=>c ρ/\k acc ρ
 | d::ds,acc,ρ=>c ρ/\acc.length<=1000000/\g d ρ fun ρ1=>tc ρ1 fun b ρ2=>if b=true then te ρ2 fun r ρ3=>sto [r.frz] ρ3 fun es ρ4=>h0j n2 c g tc te k ds (acc++es) (List.replicate n2 .un++ρ4.drop n2)else h0j n2 c g tc te k ds acc (List.replicate n2 .un++ρ2.drop n2)
def i0v (n2 n:Nat)(js:List Nat)(c:En->Prop)(g:AG)(tc:AT)(i2:AI)(g2:AG)(tc2:AT)(te:AE)(q:List D->En->Prop):List D->List D->En->Prop
 | [],acc,ρ=>c ρ/\acc.length<=1000000/\q acc ρ
 | d::ds,acc,ρ=>c ρ/\g d (blkE n js ρ) fun ρ1=>tc ρ1 fun b ρ2=>if b=true then i2 ρ2 fun ds2 c2 ρ3=>h0j n2 c2 g2 tc2 te (fun acc' ρ4=>i0v n2 n js c g tc i2 g2 tc2 te q ds acc' (back ρ (js.map R.o) (ρ4.drop n))) ds2 acc ρ3 else i0v n2 n js c g tc i2 g2 tc2 te q ds acc (back ρ (js.map R.o) (ρ2.drop n))
def i1v (n2 n:Nat)(js:List Nat)(i:AI)(g:AG)(tc:AT)(i2:AI)(g2:AG)(tc2:AT)(te:AE):AE:=fun ρ q=>i ρ fun ds c ρ1=>i0v n2 n js c g tc i2 g2 tc2 te (fun acc ρ2=>q (.f acc) ρ2) ds [] ρ1
section
variable {K:PySem.W.Frag}
theorem v0f {n2:Nat}{g2:TG}{tc2:TT}{te:TE}{ag2:AG}{atc2:AT}{ate:AE}(hg:TGok K (fun j=>decide (n2<=j)) g2 ag2)(hc:TTok K tc2 atc2)(he:TEok K te ate)
  {F:Fr} {σ:St} {ρ:En} {H:Hp} {J:It} {ds:List D} {c:En->Prop} {k:List D->En->Prop} {N:List V->Hp->Prop} {ys:List V} {acc:List D}
  (hpin:∀i a,F.pin i a->n2<=i) (hn:n2<=σ.length) (h0:σ=List.replicate n2 none++σ.drop n2) (r:Rel K F σ ρ H)
  (wk:∀ ρ2 H2,Same (hid H (hs F σ ρ)) (hid H2 (hs F σ ρ2))->(∀i,SvOk K (hid H2 (hs F σ ρ2)) H2 σ[i]? (gt ρ2 i))->(∀a,hs F σ ρ2 a->Nt H2 a)->c ρ2->WkAt K (hs F σ ρ2) H2 J ds)
  (rd:RepDs K (hid H (hs F σ ρ)) ys acc) (h:h0j n2 c ag2 atc2 ate k ds acc ρ)
  (kk:∀acc' ρ' ys' H',k acc' ρ'->Rel K F σ ρ' H'->Kp σ ρ ρ' H H'->RepDs K (hid H' (hs F σ ρ')) ys' acc'->N ys' H'):f1i J g2 tc2 te N σ ys H:=by
 refine⟨fun i m ys H'=>∃ ρ' acc,m=ds.length - i/\i<=ds.length/\Rel K F σ ρ' H'/\Kp σ ρ ρ' H H'/\RepDs K (hid H' (hs F σ ρ')) ys acc/\h0j n2 c ag2 atc2 ate k (ds.drop i) acc ρ',⟨ds.length,ρ,acc,rfl,Nat.zero_le _,r,.refl,rd,h⟩,?_⟩
 rintro i m ys H' ⟨ρ',acc,rfl,hl,r',k',rd,h'⟩
 have w:c ρ'->WkAt K (hs F σ ρ') H' J ds:=fun hc=>wk ρ' H' k'.vis r'.sl (fun a z=>x0g r' z) hc
 rcases Nat.lt_or_ge i ds.length with lt | ge
 ·right
  rw[List.drop_eq_getElem_cons lt]at h'
  unfold h0j at h'
  obtain⟨hcc,hz,h'⟩:=h'
  obtain⟨go,yld⟩:=(w hcc i).1 ds[i] (List.getElem?_eq_getElem lt)
  have yl:ys.length=acc.length:=rd.length
  refine⟨go,o0a (by omega),fun zs H2=>∃ ρ2 acc2,Rel K F σ ρ2 H2/\Kp σ ρ ρ2 H H2/\RepDs K (hid H2 (hs F σ ρ2)) zs acc2/\h0j n2 c ag2 atc2 ate k (ds.drop (i+1)) acc2 ρ2,
   fun zs H2 ⟨ρ2,acc2,a1,a2,a3,a5⟩=>⟨ds.length - (i+1),by omega,ρ2,acc2,rfl,lt,a1,a2,a3,a5⟩,fun x H2 hy=>?_⟩
  obtain⟨sm,rx⟩:=yld x H2 hy
  have k':Kp σ ρ ρ' H H2:=k'.trans ⟨fun a o e _=>sm a o e,fun _ h=>h⟩
  have rd:RepDs K (hid H2 (hs F σ ρ')) ys acc:=rd.same (b0f fun a o e n=>⟨sm a o e,n⟩)
  have r':=r'.grow sm
  refine hg F σ ρ' H2 x _ _ _ (fun i a h=>decide_eq_true (hpin i a h)) r' rx h' fun σ3 ρ3 h3 r3 l3 p3 o3=>?_
  have drop3:σ3.drop n2=σ.drop n2:=by
   apply List.ext_getElem?
   intro i
   rw[List.getElem?_drop,List.getElem?_drop]
   exact p3 (n2+i) (decide_eq_true (Nat.le_add_right ..))
  have ret:∀ ρ4 H4,Rel K F σ3 ρ4 H4->Kp σ3 ρ3 ρ4 H2 H4->Rel K F σ (List.replicate n2 .un++ρ4.drop n2) H4/\Kp σ ρ' (List.replicate n2 .un++ρ4.drop n2) H2 H4/\Same (hid H4 (hs F σ3 ρ4)) (hid H4 (hs F σ (List.replicate n2 .un++ρ4.drop n2))):=fun ρ4 H4 r4 k4=>by
   obtain⟨f1,f2⟩:=r4.forget (n:=n2) (by omega) hpin
   rw[drop3,<- h0]at f1 f2
   refine⟨f1,⟨fun a o e n=>k4.st a o e fun⟨j,hj,ej⟩=>?_,fun j hj=>?_⟩,f2⟩
   ·obtain⟨b1,b2⟩:=o3 j hj
    rw[b2]at ej
    exact n ⟨j,b1,ej⟩
   ·rw[p0h]at hj
    split at hj
    ·cases hj
    ·rename_i hnj
     rw[k0i,show n2+(j - n2)=j by omega]at hj
     exact(o3 j (k4.sb j hj)).1
  refine⟨⟨l3,fun j v e=>?_⟩,hc F σ3 ρ3 H2 _ _ r3 h3 fun b ρ4 H4 h4 r4 k4=>?_⟩
  ·rcases Nat.lt_or_ge j n2 with z | z
   ·exfalso
    rw[h0,List.getElem?_append_left (by simpa using z),List.getElem?_replicate]at e
    split at e <;> cases e
   ·rw[p3 j (decide_eq_true z)];exact e
  ·cases b with
   | false =>
    obtain⟨b1,b2,_⟩:=ret ρ4 H4 r4 k4
    exact⟨_,acc,b1,k'.trans b2,rd.same b2.vis,h4⟩
   | true =>
    refine he F σ3 ρ4 H4 _ _ r4 h4 fun r5 ρ5 v H5 h5 o5=>?_
    obtain⟨r5',k5,i5⟩:=o5.inF
    obtain⟨d,ρ6,h6,r6,k6,rv⟩:=v0r r5' i5 h5
    obtain⟨b1,b2,b3⟩:=ret ρ6 H5 r6 (k4.trans (k5.trans k6))
    exact⟨_,acc++[d],b1,k'.trans b2,(rd.same b2.vis).append (.one (rv.same b3)),h6⟩
 ·left
  rw[List.drop_eq_nil_of_le ge]at h'
  unfold h0j at h'
  obtain⟨hcc,h'⟩:=h'
  exact⟨(w hcc i).2 ge,kk acc ρ' ys H' h' r' k' rd⟩
theorem v0g {n2 n:Nat}{js:List Nat}{wi wi2:TI}{g g2:TG}{tc tc2:TT}{te:TE}{ai ai2:AI}{ag ag2:AG}{atc atc2:AT}{ate:AE}(hi:TIok K (fun _=>true) wi ai)(hg:TGok K (fun j=>decide (j<n2)||decide (n<=j)) g ag)(hc:TTok K tc atc)
  (hi2:TIok K (fun _=>true) wi2 ai2) (hg2:TGok K (fun j=>decide (n2<=j)) g2 ag2) (hc2:TTok K tc2 atc2) (he:TEok K te ate)
  (hn:n2<=n:=by decide) (hd:dis (js.map R.o)=true:=by rfl):TEok K (b1p n js wi g tc wi2 g2 tc2 te) (i1v n2 n js ai ag atc ai2 ag2 atc2 ate):=by
 intro F σ ρ H q Q r h k
 refine hi F σ ρ H _ _ r h fun ds c ρ1 J H1 h1 r1 k1 wk=>?_
 have hd':dis (blkR n js)=true:=by rw[n0p];exact hd
 refine⟨fun i m ys H'=>∃ ρ' acc,m=ds.length - i/\i<=ds.length/\Rel K F σ ρ' H'/\Kp σ ρ1 ρ' H1 H'/\RepDs K (hid H' (hs F σ ρ')) ys acc/\i0v n2 n js c ag atc ai2 ag2 atc2 ate (fun acc ρ2=>q (.f acc) ρ2) (ds.drop i) acc ρ',⟨ds.length,ρ1,[],rfl,Nat.zero_le _,r1,.refl,.nil,h1⟩,?_⟩
 rintro i m ys H' ⟨ρ',acc,rfl,hl,r',k',rd,h'⟩
 have w:c ρ'->WkAt K (hs F σ ρ') H' J ds:=fun hc=>wk σ ρ' H' k'.vis r'.sl (fun _ _ _ e=>e) (fun a z=>x0g r' z) hc
 have yl:ys.length=acc.length:=rd.length
 rcases Nat.lt_or_ge i ds.length with lt | ge
 ·right
  rw[List.drop_eq_getElem_cons lt]at h'
  unfold i0v at h'
  obtain⟨hcc,h'⟩:=h'
  obtain⟨go,yld⟩:=(w hcc i).1 ds[i] (List.getElem?_eq_getElem lt)
  refine⟨go,fun zs H2=>∃ ρ2 acc2,Rel K F σ ρ2 H2/\Kp σ ρ1 ρ2 H1 H2/\RepDs K (hid H2 (hs F σ ρ2)) zs acc2/\i0v n2 n js c ag atc ai2 ag2 atc2 ate (fun acc ρ2=>q (.f acc) ρ2) (ds.drop (i+1)) acc2 ρ2,
   fun zs H2 ⟨ρ2,acc2,a1,a2,a3,a5⟩=>⟨ds.length - (i+1),by omega,ρ2,acc2,rfl,lt,a1,a2,a3,a5⟩,fun x H2 hy=>?_⟩
  obtain⟨sm,rx⟩:=yld x H2 hy
  have r0':=r'
  have k':Kp σ ρ1 ρ' H1 H2:=k'.trans ⟨fun a o e _=>sm a o e,fun _ h=>h⟩
  have rd:RepDs K (hid H2 (hs F σ ρ')) ys acc:=rd.same (b0f fun a o e n=>⟨sm a o e,n⟩)
  have r':=r0'.grow sm
  have src:=t0j (K:=K) (F:=F) (σ:=σ) (ρ:=ρ') (H:=H2) n js
  have rb:=r'.sub src hd'
  have hs2:=v0q r' src
  rw[d0e]at rb hs2
  have pin0:∀i a,(f0z F σ ρ' H2 (bst n σ js) (blkE n js ρ')).pin i a->n<=i:=fun i a h=>by
   rcases h with h | h
   ·exact t0k h.1
   ·exact h.elim
  have hlen:(bst n σ js).length=n+js.length:=h0k
  have ret:∀ σ2 ρ2 H3,Rel K (f0z F σ ρ' H2 (bst n σ js) (blkE n js ρ')) σ2 ρ2 H3->σ2.length=(bst n σ js).length->σ2.drop n=capt σ js->(∀i,(gt ρ2 i).own=true->(gt (blkE n js ρ') i).own=true) ->
    Rel K F σ (back ρ' (js.map R.o) (ρ2.drop n)) H3/\Kp σ ρ' (back ρ' (js.map R.o) (ρ2.drop n)) H2 H3/\Same (hid H3 (hs (f0z F σ ρ' H2 (bst n σ js) (blkE n js ρ')) σ2 ρ2)) (hid H3 (hs F σ (back ρ' (js.map R.o) (ρ2.drop n)))):=fun σ2 ρ2 H3 rr hlen2 hdrop hown=>by
   obtain⟨f1,f2⟩:=rr.forget (n:=n) (by omega) pin0
   rw[hdrop]at f1 f2
   have f1':Rel K (f0z F σ ρ' H2 (bst n σ js) ((blkR n js).map (d0t ρ'))) (bst n σ js) (List.replicate n .un++ρ2.drop n) H3:=by rw[d0e];exact f1
   have bk:=r'.back src hd' f1' fun i hi=>by
    rw[d0e]
    rw[p0h]at hi
    split at hi
    ·cases hi
    ·rename_i hni
     rw[k0i,show n+(i - n)=i by omega]at hi
     exact hown i hi
   have ln:(List.replicate n Sv.un++ρ2.drop n).length=n+js.length:=by
    have:=rr.len
    simp;omega
   rw[p0v js ρ' n _ ln,List.drop_left' (by simp),d0e]at bk
   exact⟨bk.1,bk.2.1,f2.trans bk.2.2⟩
  refine hg _ (bst n σ js) (blkE n js ρ') H2 x _ _ _ (fun i a h=>by simp[pin0 i a h]) rb (by rw[hs2];exact rx) h' fun σ2 ρ2 h2 r2 l2 p2 o2=>?_
  have hdrop:σ2.drop n=capt σ js:=by
   have:σ2.drop n=(bst n σ js).drop n:=by
    apply List.ext_getElem?
    intro i
    rw[List.getElem?_drop,List.getElem?_drop]
    exact p2 (n+i) (by simp)
   rw[this]
   unfold bst
   rw[List.drop_left' (by simp)]
  have hin:σ2=List.replicate n2 none++σ2.drop n2:=by
   apply List.ext_getElem?
   intro j
   rcases Nat.lt_or_ge j n2 with z | z
   ·rw[p2 j (by simp[z]),List.getElem?_append_left (by simpa using z)]
    unfold bst
    rw[List.getElem?_append_left (by simp;omega),List.getElem?_replicate,List.getElem?_replicate,if_pos z,if_pos (by omega)]
   ·rw[List.getElem?_append_right (by simpa using z),List.length_replicate,List.getElem?_drop]
    congr 1;omega
  have rdb:RepDs K (hid H2 (hs (f0z F σ ρ' H2 (bst n σ js) (blkE n js ρ')) σ2 ρ2)) ys acc:=by
   rw[<- hs2]at rd
   refine rd.same (b0f fun a o e nn=>⟨e,fun z=>nn ?_⟩)
   rcases z with z | ⟨j,hj,ej⟩
   ·exact .inl z
   ·obtain⟨b1,b2⟩:=o2 j hj
    rw[b2]at ej
    exact .inr ⟨j,b1,ej⟩
  refine⟨hdrop,hc _ σ2 ρ2 H2 _ _ r2 h2 fun b ρ3 H3 h3 r3 k3=>?_⟩
  cases b with
  | false =>
   obtain⟨b1,b2,_⟩:=ret σ2 ρ3 H3 r3 l2 hdrop fun i hi=>(o2 i (k3.sb i hi)).1
   exact⟨_,acc,b1,k'.trans b2,rd.same b2.vis,h3⟩
  | true =>
   refine hi2 _ σ2 ρ3 H3 _ _ r3 h3 fun ds2 c2 ρ4 J2 H4 h4 r4 k4 wk2=>?_
   refine v0f hg2 hc2 he (fun i a h=>Nat.le_trans hn (pin0 i a h)) (by omega) hin r4 (fun ρ5 H5 a1 a2 a3 a4=>wk2 σ2 ρ5 H5 a1 a2 (fun _ _ _ e=>e) a3 a4) (rdb.same (k3.trans k4).vis) h4 fun acc' ρ5 ys' H5 h5 r5 k5 rd5=>?_
   obtain⟨b1,b2,b3⟩:=ret σ2 ρ5 H5 r5 l2 hdrop fun i hi=>(o2 i (k3.sb i (k4.sb i (k5.sb i hi)))).1
   exact⟨_,acc',b1,k'.trans b2,rd5.same b3,h5⟩
 ·left
  rw[List.drop_eq_nil_of_le ge]at h'
  unfold i0v at h'
  obtain⟨hcc,hz,h'⟩:=h'
  refine⟨(w hcc i).2 ge,small (by omega),fun l hl'=>?_⟩
  exact((k.after k1).after k').new r' h' rd hl'
end
section
variable {M:Model}{A:Around}{E:Value->Value->Shared->Prop}{s:Shared}{base:Heap}{env:Env}{outer:List Env}{L e C:Addr}{oe:Obj}{vs:Array Value}{od:Option Addr}
theorem o0w {E0:Value->Shared->Prop}{hd:Value}{had:Bool}{Q:Value->Unit->Shared->Prop}(fr:A.frames=some (env::outer))(ff:s.heap.FunFrames base (env::outer))(lf:env.frame=some L)
  (ge:s.heap.get? e=some oe) (gc:oe.cls = .ref C) (gd:oe.dict=od) (gf:oe.data = .fields vs) (gz:1<vs.size)
  (fin:∀h' T,s.heap.objs.size<=T->Fly od h' e C T->(∀b o,s.heap.get? b=some o->b≠e->b∉frs (env::outer)->h'.get? b=some o)->(∀b o,s.heap.get? b=some o->b≠e->∃sl,h'.get? b=some {o with slots:=sl})->Q (.ref e) () {s with heap:=h'}) :
  wpAny M A (do let a <- frameOf env;let pl <- entryPlaceOf L had;let b <- EntryCells.newEntry hd a .none (rawInt L) .none pl;setField (.ref e) 1 b) (fun _ s'=>cameBackBy M A env (fun x s2=>wpAny M A (leaving env x) (Q x) (E x) s2) (.ref e) s') E0 s:=by
 have off:e∉frs (env::outer):=fun q=>by
  obtain⟨_,o,go,no⟩:=ff.mem q
  cases ge.symm.trans go
  exact no vs gf
 refine wpAny_bind (wpAny_frameOf_fun fr ff lf fun ha sa=>wpAny_bind (wpAny_entryPlaceOf fun pl ip=>?_))
 unfold EntryCells.newEntry newFields
 refine wpAny_bind (wpAny_newObj_type ?_ (ip.sizeOk5 _ _ _ _ _))
 have ge1:ha.get? e=some oe:=(sa.2.1 e off).trans ge
 have sz:ha.objs.size=s.heap.objs.size:=sa.1
 generalize hT:([hd,Value.ref L,.none,rawInt L,.none]++(if pl.isEmpty then List.replicate 6 Value.none else pl)).toArray=tv
 have tz:3<tv.size:=by rw[<- hT,List.size_toArray,List.length_append];simp only[List.length_cons,List.length_nil];omega
 have neT:e≠ha.objs.size:=Nat.ne_of_lt (Heap.lt_size ge1)
 refine wpAny_setField (Heap.get?_push_of_some _ ge1) gf gz ?_
 generalize hp:ha.push {cls:=.type "traceback",dict:=none,data:=.fields tv}=hb
 have gT:hb.get? ha.objs.size=some {cls:=.type "traceback",dict:=none,data:=.fields tv}:=by rw[<- hp];exact Heap.get?_push_size _ rfl
 have kb:∀b o,ha.get? b=some o->hb.get? b=some o:=fun b o q=>by rw[<- hp];exact Heap.get?_push_of_some _ q
 have w1:=Obj.data_mapFields gf fun a=>a.setIfInBounds 1 (.ref ha.objs.size)
 have g3:=Heap.get?_update_self (Obj.mapFields fun a=>a.setIfInBounds 1 (.ref ha.objs.size)) (kb e oe ge1) (Obj.isFreed_of_fields w1)
 have gT3:=(Heap.get?_update_other hb (Obj.mapFields fun a=>a.setIfInBounds 1 (.ref ha.objs.size)) neT).trans gT
 unfold cameBackBy
 refine wpAny_bind (wpAny_field g3 w1 (x:=.ref ha.objs.size) (by simp[gz]) ?_)
 rw[if_neg (by simp:¬(Value.ref ha.objs.size==Value.none)=true)]
 rw[lf]
 unfold setFlight
 refine wpAny_bind (wpAny_field g3 w1 (x:=.ref ha.objs.size) (by simp[gz]) ?_)
 rw[if_pos (by simp:(Value.ref ha.objs.size != Value.none)=true)]
 refine wpAny_setField gT3 rfl tz ?_
 generalize hh2:hb.update e (Obj.mapFields fun a=>a.setIfInBounds 1 (.ref ha.objs.size))=hc at g3 gT3 ⊢
 have g4:=(Heap.get?_update_other hc (Obj.mapFields fun a=>a.setIfInBounds 3 ((some L:Option Addr).elim Value.none fun f=>rawInt f)) neT.symm).trans g3
 have w4:=Obj.data_mapFields (o:={cls:=.type "traceback",dict:=none,data:=.fields tv}) rfl fun a=>a.setIfInBounds 3 ((some L:Option Addr).elim Value.none fun f=>rawInt f)
 have gT4:=Heap.get?_update_self (Obj.mapFields fun a=>a.setIfInBounds 3 ((some L:Option Addr).elim Value.none fun f=>rawInt f)) gT3 (Obj.isFreed_of_fields w4)
 unfold leaving noteFrame
 simp only[lf]
 refine wpAny_bind (wpAny_bind (wpAny_field g4 w1 (x:=.ref ha.objs.size) (by simp[gz]) ?_))
 rw[if_pos (by simp:(Value.ref ha.objs.size != Value.none)=true)]
 refine wpAny_bind (wpAny_field gT4 w4 (x:=rawInt L) (by simp[tz]) ?_)
 rw[if_pos (by simp:(rawInt L==rawInt L)=true)]
 refine wpAny_pure ?_
 unfold setFlight
 refine wpAny_bind (wpAny_field g4 w1 (x:=.ref ha.objs.size) (by simp[gz]) ?_)
 rw[if_pos (by simp:(Value.ref ha.objs.size != Value.none)=true)]
 refine wpAny_setField gT4 w4 (by simp[tz]) ?_
 have w5:=Obj.data_mapFields w4 fun a=>a.setIfInBounds 3 ((none:Option Addr).elim Value.none fun f=>rawInt f)
 have on:∀b o,b≠e->ha.get? b=some o->((hc.update ha.objs.size (Obj.mapFields fun a=>a.setIfInBounds 3 ((some L:Option Addr).elim Value.none fun f=>rawInt f))).update ha.objs.size (Obj.mapFields fun a=>a.setIfInBounds 3 ((none:Option Addr).elim Value.none fun f=>rawInt f))).get? b=some o:=fun b o ne q=>by
  rw[Heap.get?_update_other _ _ (Nat.ne_of_gt (Heap.lt_size q)),Heap.get?_update_other _ _ (Nat.ne_of_gt (Heap.lt_size q)),<- hh2,Heap.get?_update_other _ _ (Ne.symm ne)]
  exact kb b o q
 refine fin _ ha.objs.size (by rw[sz];exact Nat.le_refl _) ⟨_,_,_,_,(Heap.get?_update_other _ _ neT.symm).trans g4,(Obj.cls_mapFields _ _).trans gc,?_,w1,by simp[gz],neT.symm,Heap.get?_update_self _ gT4 (Obj.isFreed_of_fields w5),w5,by simp[tz]⟩ (fun b o q ne nf=>on b o ne ((sa.2.1 b nf).trans q)) fun b o q ne=>?_
 ·obtain⟨oc,od,oda,osl⟩:=oe
  cases gf
  exact gd
 ·obtain⟨sl,q'⟩:=sa.2.2 b o q
  exact⟨sl,on b _ ne q'⟩
theorem lv2 {E0:Value->Shared->Prop}{hv:Value}{Q:Value->Unit->Shared->Prop}(fr:A.frames=some (env::outer))(ff:s.heap.FunFrames base (env::outer))(lf:env.frame=some L)
  (ge:s.heap.get? e=some oe) (gc:oe.cls = .ref C) (gd:oe.dict=od) (gf:oe.data = .fields vs) (g1:vs[1]? = some hv)
  (hh:hv = .none ∨ ∃T oT ts,hv = .ref T/\T≠e/\s.heap.get? T=some oT/\oT.data = .fields ts/\ts[3]? = some .none)
  (fin:∀h' T,s.heap.objs.size<=T->Fly od h' e C T->Gone (frs (env::outer)) s.heap h' e hv->Q (.ref e) () {s with heap:=h'}) :
  wpAny M A (noteFrame (.ref e) env) (fun _ s'=>cameBackBy M A env (fun x s2=>wpAny M A (leaving env x) (Q x) (E x) s2) (.ref e) s') E0 s:=by
 have gz:=(Array.getElem?_eq_some_iff.mp g1).1
 unfold noteFrame
 simp only[lf]
 refine wpAny_bind (wpAny_field ge gf g1 ?_)
 rcases hh with rfl | ⟨T,oT,ts,rfl,nT,gT,fT,t3⟩
 ·rw[if_neg (by decide)]
  exact o0w fr ff lf ge gc gd gf gz fun h' T' q1 q2 q3 q4=>fin h' T' q1 q2 ⟨fun b o a1 a2 _ a4=>q3 b o a1 a2 a4,fun b o a1 a2 _=>q4 b o a1 a2⟩
 ·rw[if_pos (by simp:(Value.ref T != Value.none)=true)]
  refine wpAny_bind (wpAny_field gT fT t3 ?_)
  rw[if_neg (by simp[rawInt]:¬(Value.none==rawInt L)=true)]
  refine wpAny_bind (wpAny_setField gT fT (Array.getElem?_eq_some_iff.mp t3).1 ?_)
  have ot:∀b,b≠T->(s.heap.update T (Obj.mapFields fun a=>a.setIfInBounds 3 Value.none)).get? b=s.heap.get? b:=fun b q=>Heap.get?_update_other _ _ (Ne.symm q)
  have gT':=Heap.get?_update_self (Obj.mapFields fun a=>a.setIfInBounds 3 Value.none) gT (Obj.isFreed_of_fields (Obj.data_mapFields fT _))
  have nr:∀b o,s.heap.get? b=some o->(∀us,o.data ≠ .fields us)->b≠T:=fun b o q nf z=>by
   subst z
   cases gT.symm.trans q
   exact nf ts fT
  refine o0w fr (ff.of_keeps fun b o q nf=>⟨o,(ot b (nr b o q nf)).trans q,rfl⟩) lf ((ot e nT.symm).trans ge) gc gd gf gz fun h' T' q1 q2 q3 q4=>fin h' T' ?_ q2 ⟨fun b o a1 a2 a3 a4=>q3 b o ((ot b fun z=>a3 (by rw[z])).trans a1) a2 a4,fun b o a1 a2 a3=>q4 b o ((ot b fun z=>a3 (by rw[z])).trans a1) a2⟩
  rwa [Heap.size_update]at q1
end
def Cx.pz (X:Cx):Value->Shared->Prop:=notedBy (model X.prog X.w) X.A X.env (cameBackBy (model X.prog X.w) X.A X.env X.xe)
section
variable {X:Cx}{pins:List (Addr×Obj)}{σ:St}{H:Hp}{s:Shared}{h0:Heap}{e C:Addr}{od:Option Addr}
theorem lvI2 {E0:Value->Shared->Prop}{E:Value->Value->Shared->Prop}{Q:Value->Unit->Shared->Prop}(I:Inv X pins σ H s)(hs:X.stack=X.env::X.outer)(hf:X.env.frame=some X.env.locals)(hsub:∀b o,h0.get? b=some o->b<s.heap.objs.size)(hot:Hot od h0 s.heap H e C)
  (fin:∀h' ch,(∀b∈ch,h0.get? b=none/\H b=none)->e∈ch->Un (frs X.stack) ch H H s.heap h'->HOk X.prog X.w H h'->Hot od h0 h' H e C->Q (.ref e) () {s with heap:=h'}) :
  wpAny (model X.prog X.w) X.A (noteFrame (.ref e) X.env) (fun _ s'=>cameBackBy (model X.prog X.w) X.A X.env (fun x s2=>wpAny (model X.prog X.w) X.A (leaving X.env x) (Q x) (E x) s2) (.ref e) s') E0 s:=by
 obtain⟨oe,vs,hv,ge,gc,gd,gf,g1,ye,ue,hh⟩:=hot
 have hh':hv = .none ∨ ∃T oT ts,hv = .ref T/\T≠e/\s.heap.get? T=some oT/\oT.data = .fields ts/\ts[3]? = some .none:=by
  rcases hh with q | ⟨T,oT,ts,q1,q2,q3,q4,q5,_⟩
  ·exact .inl q
  ·exact .inr ⟨T,oT,ts,q1,q2,q3,q4,q5⟩
 refine lv2 (hs▸I.ok.frames) (hs▸I.stack) hf ge gc gd gf g1 hh' fun h' T q1 ⟨oe',vs',oT',ts',f1,f2,f3,f4,f5,f6,f7,f8,f9⟩ g=>?_
 have hch:∀b∈e::(match hv with | .ref T=>[T] | _=>[]),h0.get? b=none/\H b=none:=fun b hb=>by
  rcases List.mem_cons.mp hb with rfl | hb
  ·exact⟨ye,ue⟩
  ·rcases hh with rfl | ⟨T,oT,ts,rfl,_,_,_,_,y,u⟩
   ·cases hb
   ·rw[List.mem_singleton.mp hb];exact⟨y,u⟩
 have nch:∀b,b∉e::(match hv with | .ref T=>[T] | _=>[])->b≠e/\hv ≠ .ref b:=fun b hb=>⟨fun z=>hb (z ▸ .head _),fun z=>hb (by subst z;exact .tail _ (.head _))⟩
 have there:∀b o,s.heap.get? b=some o->∃o',h'.get? b=some o'∨b=e∨hv = .ref b:=fun b o q=>by
  by_cases z1:b=e
  ·exact⟨o,.inr (.inl z1)⟩
  ·by_cases z2:hv = .ref b
   ·exact⟨o,.inr (.inr z2)⟩
   ·obtain⟨sl,q'⟩:=g.slot b o q z1 z2
    exact⟨_,.inl q'⟩
 refine fin h' _ hch (.head _) ⟨fun b o q n nf nx=>g.keep b o q (nch b nx).1 (nch b nx).2 (by rw[<- hs];exact nf),fun b o q n _ nx=>g.slot b o q (nch b nx).1 (nch b nx).2,fun b o _ n _=>n,fun b o q nx=>?_,fun _ _ q=>q,fun _ _ _ q=>q,fun b ps q=>⟨#[],by rw[q];simp⟩⟩ (fun a o q=>?_) ⟨oe',vs',_,f1,f2,f3,f4,f5,ye,ue,.inr ⟨T,oT',ts',rfl,f6,f7,f8,f9,?_,I.hok.fresh q1⟩⟩
 ·obtain⟨sl,q'⟩:=g.slot b o q (nch b nx).1 (nch b nx).2
  exact⟨_,q'⟩
 ·have tr:∀b o',H b=some o'->b≠e/\hv ≠ .ref b/\b∉frs (X.env::X.outer):=fun b o' z=>by
   refine⟨fun w=>?_,fun w=>?_,fun w=>?_⟩
   ·rw[w,ue]at z;cases z
   ·rcases hh with y | ⟨T,oT,ts,y,_,_,_,_,_,u⟩
    ·rw[y]at w;cases w
    ·rw[y]at w;cases w;rw[u]at z;cases z
   ·rw[<- hs]at w
    rw[I.stkFree b w]at z;cases z
  refine(I.hok a o q).stay (fun b u hb z=>?_) (fun _ z=>z) fun _ _ z=>z
  have:∃o',H b=some o':=by
   rcases hb with rfl | hb
   ·exact⟨_,q⟩
   ·exact⟨_,hb⟩
  obtain⟨o',ho'⟩:=this
  obtain⟨a1,a2,a3⟩:=tr b o' ho'
  exact g.keep b u z a1 a2 a3
 ·cases z:h0.get? T with
  | none=>rfl
  | some o=>exact absurd (hsub T o z) (Nat.not_lt.mpr q1)
end
section
variable {P:Program}{w:World}{K:PySem.W.Frag}{mg:Str->Option Value}{base:Heap}{N:List Str}{qual:Str}{scope:Scope}{f:Addr}{cd:Value}{A:Around}{outer:List Env}{s0:Shared}{H0:Hp}{E:XK}
theorem h1i {pins:List (Addr×Obj)}{σ:St}{H:Hp}{s:Shared}{e C:Addr}{od:Option Addr}(I:Inv (cxOf (CX1 P w) P w K mg base N qual scope f cd A outer s0 H0 E) pins σ H s)(hot:Hot od s0.heap s.heap H e C)(hyg:Yg s0.heap od)(he:E (odV od) (some C) H) :
  (cxOf (CX1 P w) P w K mg base N qual scope f cd A outer s0 H0 E).pz (.ref e) s:=by
 refine lvI2 I rfl rfl (fun b o q=>?_) hot fun h' ch hch hin un hok hot'=>?_
 ·exact Nat.lt_of_lt_of_le (Heap.lt_size q) I.sz
 ·have lo:∀b o,s0.heap.get? b=some o->b∉ch:=fun b o q z=>by rw[(hch b z).1]at q;cases q
  have nL:∀b o,s0.heap.get? b=some o->b≠s0.heap.objs.size:=fun b o q=>Nat.ne_of_lt (Heap.lt_size q)
  refine⟨e,C,od,H,rfl,I.os,I.bare,⟨fun b o q n nf _=>?_,fun b o q n hb _=>?_,fun b o q n _=>I.base.free b o q n (fun z=>nomatch z),fun b o q _=>?_,I.base.tups,I.base.frzs,I.base.tbls⟩,hok,hot',hyg,he⟩
  ·refine un.keep b o (I.base.keep b o q n nf fun z=>nomatch z) (I.base.free b o q n fun z=>nomatch z) (fun z=>?_) (lo b o q)
   rcases List.mem_cons.mp z with z | z
   ·exact nL b o q z
   ·exact nf z
  ·obtain⟨sl,q'⟩:=I.base.slot b o q n hb fun z=>nomatch z
   obtain⟨sl',q''⟩:=un.slot b _ q' (I.base.free b o q n fun z=>nomatch z) (.tail _ hb) (lo b o q)
   exact⟨sl',q''⟩
  ·obtain⟨o',q'⟩:=I.base.there b o q fun z=>nomatch z
   exact un.there b o' q' (lo b o q)
end
abbrev Cx.inFor (X:Cx):Cx:={X with xe:=X.pz}
end L2
namespace L2
end L2
namespace L2
open PySem PySem.Spec PyProof.Rows
def kD:Key->D
 | .inl i=>.int i
 | .inr x=>.str x
theorem h1r {K:PySem.W.Frag}{H:Hp}(k:Key):RepD K H (kV k) (kD k):=by
 cases k with
 | inl i=>unfold RepD;rfl
 | inr x=>unfold RepD;rfl
section
variable {K:PySem.W.Frag}{F:Fr}{σ:St}{ρ:En}{H:Hp}
theorem Rel.giveUp (r:Rel K F σ ρ H){i:Nat}{a:Addr}{o:HO}(ho:(gt ρ i).own=true)(el:σ[i]? = some (some (.ref a))):Rel K F σ (pt ρ i .un) (upd H a o)/\Kp σ ρ (pt ρ i .un) H (upd H a o)/\¬hs F σ (pt ρ i .un) a:=by
 have lt:=j0v ho
 have own':∀j,(gt (pt ρ i .un) j).own=true->i≠j/\(gt ρ j).own=true:=fun j h=>e0d rfl h
 have sub:∀b,b0o σ (pt ρ i .un) b->b0o σ ρ b/\b≠a:=fun b ⟨j,hj,e⟩=>by
  obtain⟨ij,hj⟩:=own' j hj
  exact⟨⟨j,hj,e⟩,fun z=>ij (r.nd i j a ho hj el (z▸e))⟩
 have hso:b0o σ ρ a:=⟨i,ho,el⟩
 have vis:Same (hid H (hs F σ ρ)) (hid (upd H a o) (hs F σ (pt ρ i .un))):=b0f fun b u e n=>by
  have al:b≠a:=fun z=>n (.inr (z▸hso))
  exact⟨by rw[a0o al];exact e,fun z=>n (z.imp id fun z=>(sub b z).1)⟩
 have vl:¬hs F σ (pt ρ i .un) a:=fun z=>by
  rcases z with z | z
  ·exact r.zo a hso z
  ·exact(sub a z).2 rfl
 have up:∀ {b},H b≠none->(upd H a o) b≠none:=fun{b} h e=>by
  by_cases al:b=a
  ·subst al;rw[a0y]at e;cases e
  ·rw[a0o al]at e;exact h e
 refine⟨⟨by rw[g0d,r.len],fun b u e n=>?_,fun b z=>b1z (fun q=>r.zo a hso (q▸z)) (r.zl b z),fun b h=>r.zo b (sub b h).1,fun j b hj e=>r.ow j b (own' j hj).2 e,r.mi,r.ml,fun b z=>up (r.ma b z),fun j k b hj hk ej ek=>r.nd j k b (own' j hj).2 (own' k hk).2 ej ek,fun j=>?_⟩,⟨fun b u e n=>?_,fun j h=>(own' j h).2⟩,vl⟩
 ·have al:b≠a:=fun z=>by
   subst z
   rcases r.ow i _ ho el with⟨_,q⟩ | q
   ·exact n q
   ·rw[e]at q;cases q
  rw[a0o al];exact r.fr b u e n
 ·by_cases ij:i=j
  ·subst ij
   rw[k0z ρ i _ lt]
   trivial
  ·rw[b0z ρ i j _ ij]
   refine(r.sl j).keep vis fun b u ho' e h=>?_
   have al:b≠a:=fun z=>ij (r.nd i j a ho ho' el (z▸e))
   rw[a0o al];exact h
 ·have al:b≠a:=fun z=>n (z▸hso)
  rw[a0o al];exact e
end
end L2
namespace L2
theorem y0a {n2:Nat}{c:En->Prop}{g:AG}{tc:AT}{te:AE}{k:List D->En->Prop}(I:Nat->List D->En->Prop){ds:List D}(hc:∀i acc ρ,i<=ds.length->I i acc ρ->c ρ/\acc.length<=1000000)
  (hs:∀(i:Nat) d acc ρ (N:List D->En->Prop),ds[i]? = some d->I i acc ρ->(∀acc' ρ',I (i+1) acc' ρ'->N acc' ρ') ->
   g d ρ fun ρ1=>tc ρ1 fun b ρ2=>if b=true then te ρ2 fun r ρ3=>sto [r.frz] ρ3 fun es ρ4=>N (acc++es) (List.replicate n2 .un++ρ4.drop n2)else N acc (List.replicate n2 .un++ρ2.drop n2))
  (hd:∀acc ρ,I ds.length acc ρ->k acc ρ):∀acc ρ,I 0 acc ρ->h0j n2 c g tc te k ds acc ρ:=by
 have go:∀(es:List D) (i:Nat),ds.drop i=es->i<=ds.length->∀acc ρ,I i acc ρ->h0j n2 c g tc te k es acc ρ:=by
  intro es
  induction es with
  | nil =>
   intro i h hi acc ρ hI
   have:ds.length<=i:=List.drop_eq_nil_iff.mp h
   have:i=ds.length:=by omega
   subst this
   unfold h0j
   exact⟨(hc _ acc ρ (Nat.le_refl _) hI).1,hd acc ρ hI⟩
  | cons d es ih =>
   intro i h hi acc ρ hI
   have lt:i<ds.length:=by
    rcases Nat.lt_or_ge i ds.length with q | q
    ·exact q
    ·rw[List.drop_eq_nil_of_le q]at h;cases h
   rw[List.drop_eq_getElem_cons lt]at h
   injection h with h1 h2
   unfold h0j
   obtain⟨a,b⟩:=hc i acc ρ hi hI
   exact⟨a,b,hs i d acc ρ (fun acc' ρ'=>h0j n2 c g tc te k es acc' ρ') (by rw[<- h1];exact List.getElem?_eq_getElem lt) hI (fun acc' ρ' i'=>ih (i+1) h2 lt acc' ρ' i')⟩
 exact go ds 0 rfl (Nat.zero_le _)
theorem y0b {n2 n:Nat}{js:List Nat}{c:En->Prop}{g:AG}{tc:AT}{i2:AI}{g2:AG}{tc2:AT}{te:AE}{q:List D->En->Prop}(I:Nat->List D->En->Prop){ds:List D}(hc:∀i acc ρ,i<=ds.length->I i acc ρ->c ρ/\acc.length<=1000000)
  (hs:∀(i:Nat) d acc ρ (N:List D->En->Prop),ds[i]? = some d->I i acc ρ->(∀acc' ρ',I (i+1) acc' ρ'->N acc' ρ') ->
   g d (blkE n js ρ) fun ρ1=>tc ρ1 fun b ρ2=>if b=true then i2 ρ2 fun ds2 c2 ρ3=>h0j n2 c2 g2 tc2 te (fun acc' ρ4=>N acc' (back ρ (js.map R.o) (ρ4.drop n))) ds2 acc ρ3 else N acc (back ρ (js.map R.o) (ρ2.drop n)))
  (hd:∀acc ρ,I ds.length acc ρ->q acc ρ):∀ ρ,I 0 [] ρ->i0v n2 n js c g tc i2 g2 tc2 te q ds [] ρ:=by
 have go:∀(es:List D) (i:Nat),ds.drop i=es->i<=ds.length->∀acc ρ,I i acc ρ->i0v n2 n js c g tc i2 g2 tc2 te q es acc ρ:=by
  intro es
  induction es with
  | nil =>
   intro i h hi acc ρ hI
   have:ds.length<=i:=List.drop_eq_nil_iff.mp h
   have:i=ds.length:=by omega
   subst this
   unfold i0v
   obtain⟨a,b⟩:=hc _ acc ρ (Nat.le_refl _) hI
   exact⟨a,b,hd acc ρ hI⟩
  | cons d es ih =>
   intro i h hi acc ρ hI
   have lt:i<ds.length:=by
    rcases Nat.lt_or_ge i ds.length with q | q
    ·exact q
    ·rw[List.drop_eq_nil_of_le q]at h;cases h
   rw[List.drop_eq_getElem_cons lt]at h
   injection h with h1 h2
   unfold i0v
   exact⟨(hc i acc ρ hi hI).1,hs i d acc ρ (fun acc' ρ'=>i0v n2 n js c g tc i2 g2 tc2 te q es acc' ρ') (by rw[<- h1];exact List.getElem?_eq_getElem lt) hI (fun acc' ρ' i'=>ih (i+1) h2 lt acc' ρ' i')⟩
 exact go ds 0 rfl (Nat.zero_le _) []
end L2
namespace L2
open PySem PySem.Spec PyProof.Rows
def s0s:List D->Option (List Key)
 | []=>some []
 | d::ds=>(match dKey d,s0s ds with | some k,some ks=>some (k::ks) | _,_=>none)
def keyT:D->Option (List Key)
 | .tup ds=>s0s ds
 | _=>none
section
variable {K:PySem.W.Frag}{td ty tx tv tk:TE}{ad ay ax av ak:AE}
theorem o0z {H:Hp}:∀ {vs:List V} {ds:List D} {ks:List Key},RepDs K H vs ds->s0s ds=some ks->vs=ks.map kV
 | [],[],ks,_,e=>by cases e;rfl
 | v::vs,d::ds,ks,r,e=>by
  unfold RepDs at r
  unfold s0s at e
  split at e
  ·rename_i k1 ks1 e1 e2
   cases e
   rw[o0z r.2 e2,h1q r.1 e1];rfl
  ·cases e
 | [],_::_,_,r,_=>by unfold RepDs at r;exact r.elim
 | _::_,[],_,r,_=>by unfold RepDs at r;exact r.elim
theorem e1e {H:Hp}{v:V}{d:D}{ks:List Key}(r:RepD K H v d)(e:keyT d=some ks):∃b,v = .ref b/\H b=some (.tup (ks.map kV)):=by
 cases d with
 | tup ds =>
  unfold RepD at r
  obtain⟨a,vs,rfl,h1,h2⟩:=r
  have:=o0z h2 e
  subst this
  exact⟨a,rfl,h1⟩
 | _=>cases e
theorem r0g {F:Fr}{σ:St}{ρ:En}{H:Hp}{v:V}{d:D}{ks:List Key}(r:RepD K (hid H (hs F σ ρ)) v d)(e:keyT d=some ks):∃b,v = .ref b/\H b=some (.tup (ks.map kV)):=by
 obtain⟨b,e1,e2⟩:=e1e r e
 exact⟨b,e1,(f0p.mp e2).2⟩
@[irreducible] def u0n (d:D)(q:List Key->Prop):Prop:=∃k,keyT d=some k/\q k
theorem n0f {d:D}{k:List Key}{q:List Key->Prop}(e:keyT d=some k)(h:q k):u0n d q:=by unfold u0n;exact⟨k,e,h⟩
@[irreducible] def a1d (kvs:List (List Key×D))(d:D)(q:D->Prop):Prop:=∃k x,keyT d=some k/\valD kvs k=some x/\q x
theorem s0z {kvs:List (List Key×D)}{d:D}{k:List Key}{x:D}{q:D->Prop}(e:keyT d=some k)(e':valD kvs k=some x)(h:q x):a1d kvs d q:=by unfold a1d;exact⟨k,x,e,e',h⟩
def i1u (a i:AE):AE:=fun ρ q=>a ρ fun r ρ1=>match r with
 | .o j=>i ρ1 fun r2 ρ2=>(match r2,gt ρ2 j with
  | .d d,.dt kvs=>a1d kvs d fun x=>q (.d x) ρ2
  | _,_=>False)
 | _=>False
theorem n0y (ha:TEok K td ad)(hi:TEok K ty ay):TEok K (g1i td ty) (i1u ad ay):=by
 intro F σ ρ H q Q r h k
 refine ha F σ ρ H _ _ r h fun r1 ρ1 x H1 h1 o1=>?_
 obtain⟨r1',k1,i1⟩:=o1.inF
 split at h1
 ·rename_i j
  have ej:σ[j]? = some (some x):=i1
  refine hi F σ ρ1 H1 _ _ r1' h1 fun r2 ρ2 y H2 h2 o2=>?_
  obtain⟨r2',k2,i2⟩:=o2.inF
  split at h2
  ·rename_i d kvs hg
   unfold a1d at h2
   obtain⟨kk,z,ek,ez,hq⟩:=h2
   obtain⟨t,ks,rfl,ht,e1,e2⟩:=r0k r2' ej hg
   obtain⟨v,ev,rv⟩:=(q0c kk e1 e2).1 z ez
   obtain⟨b,rfl,hb⟩:=r0g i2 ek
   refine⟨t,v,rfl,?_,((k.after k1).after k2).dat r2' hq rv⟩
   rw[<- ev]
   exact DGet.t ht hb
  ·exact h2.elim
 ·exact h1.elim
def i1s (x o i:AE):AS:=fun e ρ=>x ρ fun r ρ1=>sto [r.frz] ρ1 fun ds ρ2=>o ρ2 fun r2 ρ3=>match r2 with
 | .o j=>i ρ3 fun r3 ρ4=>(match r3,gt ρ4 j,ds with
  | .d kd,.dt kvs,[d]=>u0n kd fun k=>kvs.length<=1000000/\e.nx (pt ρ4 j (.dt (putD kvs k d)))
  | _,_,_=>False)
 | _=>False
theorem v0v {pr:Nat->Bool}(h:TEok K tv av)(ho:TEok K td ad)(hi:TEok K ty ay):TSok K pr (d1g td ty tv) (i1s av ad ay):=by
 intro F σ ρ H D e hp r ha k
 refine h F σ ρ H _ _ r ha fun r1 ρ1 v H1 h1 o=>?_
 obtain⟨r',k1,i1⟩:=o.inF
 obtain⟨ds,ρ2,h2,r2,k2,rd⟩:=h0a r' (.cons i1 .nil) h1
 refine ho F σ ρ2 H1 _ _ r2 h2 fun r3 ρ3 x H3 h3 o3=>?_
 obtain⟨r3',k3,i3⟩:=o3.inF
 split at h3
 ·rename_i j
  have ej:σ[j]? = some (some x):=i3
  refine hi F σ ρ3 H3 _ _ r3' h3 fun r4 ρ4 y H4 h4 o4=>?_
  obtain⟨r4',k4,i4⟩:=o4.inF
  split at h4
  ·rename_i kd kvs d hg
   unfold u0n at h4
   obtain⟨kk,ek,h4⟩:=h4
   obtain⟨t,ks,rfl,ht,e1,e2⟩:=r0k r4' ej hg
   unfold RepDs at rd
   have rd4:=(RepD.same rd.1 (k3.trans k4).vis)
   obtain⟨p1,p2⟩:=w0e kk rd4 e1 e2
   obtain⟨b,rfl,hb⟩:=r0g i4 ek
   have hw:=r4'.write (i:=j) (l:=t) (o:=.dT (putK ks kk v)) (s:=.dt (putD kvs kk d)) (by rw[hg];rfl) ej rfl ⟨t,_,rfl,a0y,p1,p2⟩
   exact⟨t,_,rfl,DPut.t ht hb (o0a (by rw[s0q e1];exact h4.1)),k.nx _ _ _ h4.2 hw.1⟩
  ·exact h4.elim
 ·exact h3.elim
end
theorem u0a {prog:Program}{w:World}{A:Around}{E:Value->Shared->Prop}{s:Shared}{it d:Addr}{i ep:Nat}{od:Obj}{es:Array DictEntry}{e:DictEntry}{ok ov:Value}{Q:Option Value->Shared->Prop}
  (hit:IsItemIter s.heap it d i es.size ep ok ov) (hod:s.heap.get? d=some od) (hdd:od.data = .dict es ep) (he:es[i]? = some e)
  (hQ:∀h':Heap,IsItemIterOut h' it d (i+1) es.size ep e.key e.val s.heap.objs.size->h'.get? s.heap.objs.size=some {cls:=.type "tuple",data:=.seq #[e.key,e.val]}->h'.objs.size=s.heap.objs.size+1->(∀b o,b≠it->s.heap.get? b=some o->h'.get? b=some o)->Q (some (.ref s.heap.objs.size)) {s with heap:=h'}) :
  wpAny (model prog w) A (pyNext (.ref it)) Q E s:=by
 have hT:s.TypeIs (.ref it) "dict_itemiterator" := by
  first
  | exact⟨_,hit,rfl⟩
  | exact⟨_,_,hit,rfl⟩
 refine wpAny_bind (wpAny_attempt (wpAny_callSpecial?_slot hT F.slot_dict_itemiterator_next (wpAny_call_entry F.slot_dict_itemiterator_next hT F.entry_dict_itemiterator_next (wpAny_bind (wpAny_pure (wpAny_bind (wpAny_bind (wpAny_bind (wpAny_typeNameOfWhole_itemiter hT (wpAny_pure (wpAny_bind (wpAny_fieldsOf hit rfl ?_))))))))))))
 have hown:Builtin.Dict_items.ownsTuple "dict_itemiterator" = true:=by decide
 rw[hown]
 show wpAny _ _ (ite ((Value.ref d==Value.none)=true) _ _) _ _ _
 rw[if_neg (by first | (intro z;cases z) | simp)]
 refine wpAny_bind (wpAny_pure (wpAny_bind (wpAny_dictEntries hod hdd ?_)))
 show wpAny _ _ (ite (((es.size:Int) != (es.size:Int))=true) _ _) _ _ _
 rw[if_neg (by simp)]
 refine wpAny_bind (wpAny_pure (wpAny_bind (wpAny_dictEpoch hod hdd ?_)))
 show wpAny _ _ (ite (((ep:Int) != (ep:Int))=true) _ _) _ _ _
 rw[if_neg (by simp)]
 refine wpAny_pure ?_
 show wpAny _ _ (match (if(i:Int)<0 then none else es[(i:Int).toNat]?)with | some e=>_ | none=>_) _ _ _
 rw[if_neg (by omega),Int.toNat_natCast,he]
 refine wpAny_bind (wpAny_bind (wpAny_typeNameOfWhole_itemiter hT (wpAny_pure (wpAny_bind (wpAny_isOneOf_itemiter hT ?_)))))
 rw[hown,if_pos rfl]
 rw[if_neg (by decide)]
 refine wpAny_bind (wpAny_setField_rec hit (by show 3<8;decide) fun h1 g1 sb1=>?_)
 have g1':h1.get? it=some {cls:=.type "dict_itemiterator",data:=.fields #[.none,.bool false,.ref d,.int ((i+1:Nat):Int) 0,.int (es.size:Nat) 0,.int (ep:Nat) 0,ok,ov]}:=g1
 have hT1:({s with heap:=h1}:Shared).TypeIs (.ref it) "dict_itemiterator" := by
  first
  | exact⟨_,g1',rfl⟩
  | exact⟨_,_,g1',rfl⟩
 refine wpAny_bind (wpAny_holding ?_)
 refine wpAny_bind (wpAny_isOneOf_itemiter hT1 ?_)
 rw[if_neg (by decide)]
 refine wpAny_bind (wpAny_isOneOf_itemiter hT1 ?_)
 rw[if_neg (by decide)]
 have n1:h1.objs.size=s.heap.objs.size:=sb1.1
 refine wpAny_bind (wpAny_newTuple ?_ (by show 2<=sizeLine;decide))
 have g2:(h1.push {cls:=.type "tuple",data:=.seq #[e.key,e.val]}).get? it=some {cls:=.type "dict_itemiterator",data:=.fields #[.none,.bool false,.ref d,.int ((i+1:Nat):Int) 0,.int (es.size:Nat) 0,.int (ep:Nat) 0,ok,ov]}:=Heap.get?_push_of_some _ g1'
 refine wpAny_bind (wpAny_bind (wpAny_field g2 rfl rfl (wpAny_pure ?_)))
 show wpAny _ _ (ite ((Value.none==Value.none)=true) _ _) _ _ _
 rw[if_pos (by first | rfl | simp)]
 refine wpAny_bind (wpAny_field g2 rfl rfl (wpAny_bind (wpAny_field g2 rfl rfl (wpAny_bind (wpAny_setField_rec g2 (by show 6<8;decide) fun h3 g3 sb3=>?_)))))
 refine wpAny_bind (wpAny_setField_rec g3 (by show 7<8;decide) fun h4 g4 sb4=>?_)
 refine wpAny_bind (wpAny_setField_rec g4 (by show 0<8;decide) fun h5 g5 sb5=>?_)
 refine wpAny_bind (wpAny_setField_rec g5 (by show 1<8;decide) fun h6 g6 sb6=>?_)
 refine wpAny_bind (wpAny_letGo (wpAny_pure (wpAny_pure ⟨_,rfl,wpAny_pure ?_⟩)))
 have ne:it≠h1.objs.size:=Nat.ne_of_lt (Heap.lt_size g1')
 have q2:(h1.push {cls:=.type "tuple",data:=.seq #[e.key,e.val]}).get? h1.objs.size=some {cls:=.type "tuple",data:=.seq #[e.key,e.val]}:=Heap.get?_push_size _ rfl
 have z2:(h1.push {cls:=.type "tuple",data:=.seq #[e.key,e.val]}).objs.size=h1.objs.size+1:=Heap.size_push _ _
 have up:∀b o,b≠it->(h1.push {cls:=.type "tuple",data:=.seq #[e.key,e.val]}).get? b=some o->h6.get? b=some o:=fun b o hb q=>(sb6.2 b hb).trans ((sb5.2 b hb).trans ((sb4.2 b hb).trans ((sb3.2 b hb).trans q)))
 have sz:h6.objs.size=s.heap.objs.size+1:=by
  have a3:=sb3.1;have a4:=sb4.1;have a5:=sb5.1;have a6:=sb6.1
  simp only at a3 a4 a5 a6
  omega
 show Q (some (.ref h1.objs.size)) _
 rw[n1]
 refine hQ h6 ?_ ?_ sz fun b o hb q=>up b o hb (Heap.get?_push_of_some _ ((sb1.2 b hb).trans q))
 ·rw[<- n1];exact g6
 ·rw[<- n1];exact up _ _ (Ne.symm ne) q2
theorem k0w {prog:Program}{w:World}{A:Around}{E:Value->Shared->Prop}{s:Shared}{it d:Addr}{i ep:Nat}{od:Obj}{es:Array DictEntry}{ok ov:Value}{Q:Option Value->Shared->Prop}
  (hh:A.handled=none) (hit:IsItemIter s.heap it d i es.size ep ok ov) (hod:s.heap.get? d=some od) (hdd:od.data = .dict es ep) (he:es[i]? = none)
  (hQ:∀h':Heap,(∀b o,b≠it->s.heap.get? b=some o->h'.get? b=some o)->Q none {s with heap:=h'}) :
  wpAny (model prog w) A (pyNext (.ref it)) Q E s:=by
 have hT:s.TypeIs (.ref it) "dict_itemiterator" := by
  first
  | exact⟨_,hit,rfl⟩
  | exact⟨_,_,hit,rfl⟩
 refine wpAny_bind (wpAny_attempt (wpAny_callSpecial?_slot hT F.slot_dict_itemiterator_next (wpAny_call_entry F.slot_dict_itemiterator_next hT F.entry_dict_itemiterator_next (wpAny_bind (wpAny_pure (wpAny_bind (wpAny_bind (wpAny_bind (wpAny_typeNameOfWhole_itemiter hT (wpAny_pure (wpAny_bind (wpAny_fieldsOf hit rfl ?_))))))))))))
 have hown:Builtin.Dict_items.ownsTuple "dict_itemiterator" = true:=by decide
 rw[hown]
 show wpAny _ _ (ite ((Value.ref d==Value.none)=true) _ _) _ _ _
 rw[if_neg (by first | (intro z;cases z) | simp)]
 refine wpAny_bind (wpAny_pure (wpAny_bind (wpAny_dictEntries hod hdd ?_)))
 show wpAny _ _ (ite (((es.size:Int) != (es.size:Int))=true) _ _) _ _ _
 rw[if_neg (by simp)]
 refine wpAny_bind (wpAny_pure (wpAny_bind (wpAny_dictEpoch hod hdd ?_)))
 show wpAny _ _ (ite (((ep:Int) != (ep:Int))=true) _ _) _ _ _
 rw[if_neg (by simp)]
 refine wpAny_pure ?_
 show wpAny _ _ (match (if(i:Int)<0 then none else es[(i:Int).toNat]?)with | some e=>_ | none=>_) _ _ _
 rw[if_neg (by omega),Int.toNat_natCast,he]
 refine wpAny_bind (wpAny_bind (wpAny_typeNameOfWhole_itemiter hT (wpAny_pure ?_)))
 rw[hown,if_pos rfl]
 refine wpAny_bind (wpAny_setField_rec hit (by show 2<8;decide) fun h1 g1 sb1=>?_)
 have ho:∃n,n<=10/\(ownMembersOf (Value.type "StopIteration") []).size=n:=by
  first
  | exact⟨_,by decide,rfl⟩
  | exact⟨(ownMembersOf (Value.type "StopIteration") []).size,by decide +kernel,rfl⟩
 obtain⟨no,hno,eno⟩:=ho
 refine wpAny_bind (wpAny_bind (wpAny_newObj_type (wpAny_bind (wpAny_of_eq rfl (wpAny_newObj_type ?_ (by first | trivial | (unfold sizeOk;trivial) | (simp[sizeOk,sizeLine_eq,eno];omega) | (simp only[sizeOk,Array.size_append,eno,sizeLine_eq];simp;omega))))) (by show 0<=sizeLine;decide)))
 refine wpAny_bind (wpAny_handled ?_)
 rw[show A.in1.handled=none from hh]
 refine wpAny_bind (wpAny_pure (wpAny_throw ?_))
 refine wpAny_bind (wpAny_isInstance (T := "StopIteration") (v:=.ref _) ?_ isSubtype_stop (wpAny_pure (hQ _ fun b o hb q=>Heap.get?_push_of_some _ (Heap.get?_push_of_some _ ((sb1.2 b hb).trans q)))))
 exact⟨_,Heap.get?_push_size _ rfl,rfl⟩
theorem u0h {prog:Program}{w:World}(d:Addr)(hd:(d==sysModules)=false):MeetsIn prog w (Builtin.«dict.items» {pos:=[Value.ref d]}) fun _ R s=>s.TypeIs (.ref d) "dict" /\ R (Except.ok (Flow.ret (Value.ref s.heap.objs.size))) {s with heap:=s.heap.push {cls:=.type "dict_items",data:=.fields #[.ref d]}} :=
 MeetsIn.of_wp fun A R s ⟨hT,h⟩=>by
  refine wpAny_bind (wpAny_bind (wpAny_notOrdered_dict hT (wpAny_pure ?_)))
  show wpAny _ _ (do (if(d==sysModules)=true then _ else _);_) _ _ _
  rw[if_neg (by rw[hd];decide)]
  exact wpAny_bind (wpAny_pure (wpAny_bind (wpAny_newObj_type (wpAny_pure ⟨_,rfl,h⟩) (by show 1<=sizeLine+2;decide))))
theorem u0f {prog:Program}{w:World}{A:Around}{E:Value->Shared->Prop}{s:Shared}{v d:Addr}{ep:Nat}{o:Obj}{es:Array DictEntry}{Q:Value->Shared->Prop}(hv:s.heap.IsItemsView v d)(ho:s.heap.get? d=some o)(hdat:o.data = .dict es ep)
  (hQ:Q (.ref s.heap.objs.size) {s with heap:=s.heap.push {cls:=.type "dict_itemiterator",data:=.fields #[.none,.bool false,.ref d,.int 0 0,.int (es.size:Nat) 0,.int (ep:Nat) 0,.none,.none]}}) :
  wpAny (model prog w) A (pyIter (.ref v)) Q E s:=by
 obtain⟨ov,hov,hcv,hdv⟩:=id hv
 refine wpAny_pyIter_slot hv.typeIs F.slot_dict_items_iter (wpAny_call_entry F.slot_dict_items_iter hv.typeIs F.entry_dict_items_iter ?_)
 refine wpAny_bind (wpAny_pure (wpAny_bind (wpAny_bind (wpAny_field hov hdv rfl (wpAny_pure (wpAny_bind (wpAny_bind (wpAny_dictEntries ho hdat (wpAny_bind (wpAny_dictEpoch ho hdat ?_))))))))))
 have hown:Builtin.Dict_items.ownsTuple "dict_itemiterator" = true:=by decide
 rw[hown]
 refine wpAny_newObj_type (wpAny_pure ⟨_,rfl, "dict_itemiterator",_,⟨_,Heap.get?_push_size _ rfl,rfl⟩,F.slot_dict_itemiterator_next.lookup,hQ⟩) (by show 8<=sizeLine+2;decide)
def Iti (a:Addr)(ob:Obj)(kvs:List (List Key×V)):It :=
 ⟨fun i H=>H a=some (.frz ob (.dT kvs))/\i<kvs.length,
  fun i H v H'=>∃p b ks y,v = .ref p/\H p=none/\H'=upd H p (.tup [.ref b,y])/\kvs[i]? = some (ks,y)/\H b=some (.tup (ks.map kV)),
  fun i H=>H a=some (.frz ob (.dT kvs))/\kvs.length<=i⟩
theorem c1c {H:Hp}{kvs:List (List Key×V)}{xs:List (List Key×Addr×Value)}(h:KT H kvs xs):∀ {i:Nat} {ks:List Key} {y:V},kvs[i]? = some (ks,y)->∃b u,xs[i]? = some (ks,b,u)/\H b=some (.tup (ks.map kV))/\RelV y u:=by
 induction h with
 | nil=>intro i ks y e;cases e
 | @cons p q l l' a t ih =>
  intro i ks y e
  cases i with
  | zero =>
   cases e
   obtain⟨q1,q2,q3⟩:=q
   obtain⟨e1,e2,e3⟩:=a
   simp only at e1 e2 e3
   subst e1
   exact⟨q2,q3,rfl,e2,e3⟩
  | succ i=>exact ih e
theorem h1l {H H':Hp}{kvs:List (List Key×V)}{xs:List (List Key×Addr×Value)}(g:∀b ys,H b=some (.tup ys)->H' b=some (.tup ys))(h:KT H kvs xs):KT H' kvs xs:=by
 induction h with
 | nil=>exact .nil
 | cons a _ ih=>exact .cons ⟨a.1,g _ _ a.2.1,a.2.2⟩ ih
theorem s0p {H:Hp}{kvs:List (List Key×V)}{xs:List (List Key×Addr×Value)}(h:KT H kvs xs):kvs.length=xs.length:=by
 induction h with
 | nil=>rfl
 | cons _ _ ih=>rw[List.length_cons,List.length_cons,ih]
theorem u0p:entryFor table "dict_itemiterator.__iter__" = some Builtin.«dict_keyiterator.__iter__»:=entryFor_alias (id (Eq.refl (fastTable "dict_itemiterator.__iter__"))) rfl (by decide +kernel) (id (Eq.refl (fastTable "dict_keyiterator.__iter__")))
theorem x0a {prog:Program}{w:World}{A:Around}{E:Value->Shared->Prop}{s:Shared}{it d:Addr}{i n ep:Nat}{ok ov:Value}{Q:Value->Shared->Prop}(hit:IsItemIter s.heap it d i n ep ok ov)(h:Q (.ref it) s):wpAny (model prog w) A (pyIter (.ref it)) Q E s:=by
 have hT:s.TypeIs (.ref it) "dict_itemiterator" := ⟨_,hit,rfl⟩
 exact wpAny_pyIter_slot hT F.slot_dict_itemiterator_iter (wpAny_call_entry F.slot_dict_itemiterator_iter hT u0p (wpAny_pure ⟨.ref it,rfl, "dict_itemiterator",_,hT,F.slot_dict_itemiterator_next.lookup,h⟩) (F.args_dict_itemiterator_iter_1 (.ref it)))
theorem t0q {P:Program}{w:World}{K:PySem.W.Frag}{elts:List Expr}{x1}{tpos:Pos}{it a:Addr}{ob:Obj}{es:Array DictEntry}{ep:Nat}{kvs:List (List Key×V)}(ne:a≠it)(hobd:ob.data = .dict es ep)(hlen:es.size=kvs.length) :
  Turn P w K (.Tuple elts x1 tpos) (Iti a ob kvs) [it] it (fun i h=>∃ok ov,IsItemIter h it a i es.size ep ok ov) where
 mem:=by simp
 obj:=fun i h st b hb=>by
  obtain⟨ok,ov,e1⟩:=st
  rw[List.mem_singleton.mp hb]
  exact⟨_,e1,fun v q=>by cases q⟩
 keep:=fun i h h' st k=>by
  obtain⟨ok,ov,e1⟩:=st
  exact⟨ok,ov,k it (by simp) _ e1⟩
 item:=by
  intro X hP hw hK hc i pins s σ H E I hf st hg
  subst hP hw hK
  obtain⟨ok,ov,st⟩:=st
  obtain⟨hu,hi⟩:=hg
  obtain⟨ha,_,_,xs,kt,o,es',ep',ho,_,hdat,hes,_⟩:=(show c0s X.prog X.w H s.heap a (.frz ob (.dT kvs))from I.hok a _ hu)
  rw[ha]at ho;cases ho
  rw[hobd]at hdat;cases hdat
  obtain⟨⟨ks,y⟩,hky⟩:∃p,kvs[i]=p:=⟨_,rfl⟩
  have hx:kvs[i]? = some (ks,y):=by rw[List.getElem?_eq_getElem hi,hky]
  obtain⟨b,u,h1,h2,ru⟩:=c1c kt hx
  have he:es[i]? = some {hash:=(tupleKind (c0g X.prog X.w)).hash ks,key:=.ref b,val:=u}:=by
   rw[<- Array.getElem?_toList,hes,List.getElem?_map,h1];rfl
  refine u0a st ha hobd he fun h' a1 a3 a4 hk=>?_
  refine⟨_,rfl,wpAny_letOwnedTupleGo_items (s:={s with heap:=h'}) a1 fun h2' he' hs'=>?_⟩
  have hs2:Heap.SameBut it h' h2':=hs'
  have es:it≠s.heap.objs.size:=Nat.ne_of_lt (Heap.lt_size st)
  have up:∀b o,b∉[it]->s.heap.get? b=some o->h2'.get? b=some o:=fun b o hb q=>by
   have hb':b≠it:=fun z=>hb (by simp[z])
   exact(hs2.2 b hb').trans (hk b o hb' q)
  have I1:Inv X pins σ H {s with heap:=h2'}:=I.turns (t':=s.toks) up hf
  have fp:FpOk X pins H s.heap.objs.size:=I.fpOk (Nat.le_refl _) (I.hok.fresh (Nat.le_refl _))
  have g:h2'.get? s.heap.objs.size=some {cls:=.type "tuple",data:=.seq #[.ref b,u]}:=(hs2.2 _ (Ne.symm es)).trans a3
  have I2:=I1.trackO (o:=.tup [.ref b,y]) fp ⟨by show 2<=sizeLine;decide,[.ref b,u],.cons rfl (.cons ru .nil),_,g,rfl,_,rfl⟩
  refine⟨.ref s.heap.objs.size,upd H s.heap.objs.size (.tup [.ref b,y]),I2,rfl,⟨_,b,ks,y,rfl,fp.1,rfl,hx,h2⟩,⟨_,_,he'⟩,fun c hc'=>?_⟩
  have hb':=(hf c hc').1
  have ne':c≠s.heap.objs.size:=by rw[List.mem_singleton.mp hc'];exact es
  rw[a0o ne'];exact hb'
 done:=by
  intro X hP hw hK hc i pins s σ H E I hf st hg
  subst hP hw hK
  obtain⟨ok,ov,st⟩:=st
  obtain⟨hu,hi⟩:=hg
  have ha:s.heap.get? a=some ob:=(show c0s X.prog X.w H s.heap a (.frz ob (.dT kvs))from I.hok a _ hu).1
  refine k0w (I.ok.hd hc) st ha hobd (Array.getElem?_eq_none (by omega)) fun h' hk=>⟨rfl,I.turns (ch:=[it]) (t':=s.toks) (fun b o hb q=>hk b o (fun z=>hb (by simp[z])) q) hf⟩
 self:=fun _ _ _ _ _ st h=>by obtain⟨ok,ov,e1⟩:=st;exact x0a e1 h
def x0f (td:TE):TI:=fun σ H R=>td σ H fun x H1=>∃a kvs,x = .ref a/\H1 a=some (.dT kvs)/\∀ob,R (Iti a ob kvs) (upd H1 a (.frz ob (.dT kvs)))
theorem w0i {X:Cx}{elts:List Expr}{x1}{tpos:Pos}{o:Expr}{td:TE}{apos cpos:Pos}(ho:PE X o td)(hbase:attributeBase o "items" X.env (eval o X.env)=eval o X.env:=by rfl)(hline:(apos.endLine==cpos.line)=true:=by rfl) :
  PI X (.Tuple elts x1 tpos) (.Call (.Attribute o "items" apos) [] [] cpos) (x0f td):=by
 intro pins s σ H R I h
 refine wpAny_Call_method0_late hbase hline (thn (ho pins s σ H _ I h) fun v s1 ⟨x,H1,I1,r1,a,kvs,ex,ha,q1⟩=>?_)
 subst ex
 obtain rfl:v=Value.ref a:=r1
 obtain⟨z,hd,xs,kt,ob,es,ep,eo,hx,hdat,hes,hnd⟩:=(show c0s X.prog X.w H1 s1.heap a (.dT kvs)from I1.hok a _ ha)
 obtain⟨t1,t2,_⟩:=c1e I1 (.inr ⟨kvs,.inl ha⟩)
 refine⟨"dict", "dict.items",PySem.F.plainAttrs_dict,PySem.F.slot_dict_items,PySem.F.type_dict_items,t1,t2,Calls.callWith_builtin rfl (PySem.evalArgs_none ?_)⟩
 have hT:s1.TypeIs (.ref a) "dict" := t1
 refine call_meetsIn PySem.F.slot_dict_items hT PySem.F.entry_dict_items (PySem.F.args_dict_items_1 _) (u0h a hd) ⟨hT,?_⟩
 have hsz:es.size=kvs.length:=by rw[<- Array.length_toList,hes,List.length_map];exact(s0p kt).symm
 refine u0f (es:=es) (ep:=ep) ⟨_,Heap.get?_push_size _ rfl,rfl,rfl⟩ (Heap.get?_push_of_some _ eo) hdat ?_
 have I2:Inv X pins σ H1 {s1 with heap:=(s1.heap.push {cls:=.type "dict_items",data:=.fields #[.ref a]}).push {cls:=.type "dict_itemiterator",data:=.fields #[.none,.bool false,.ref a,.int 0 0,.int (es.size:Nat) 0,.int (ep:Nat) 0,.none,.none]}}:=I1.kept (t':=s1.toks) fun b o e=>Heap.get?_push_of_some _ (Heap.get?_push_of_some _ e)
 have ha2:((s1.heap.push {cls:=.type "dict_items",data:=.fields #[.ref a]}).push {cls:=.type "dict_itemiterator",data:=.fields #[.none,.bool false,.ref a,.int 0 0,.int (es.size:Nat) 0,.int (ep:Nat) 0,.none,.none]}).get? a=some ob:=Heap.get?_push_of_some _ (Heap.get?_push_of_some _ eo)
 have kt2:KT (upd H1 a (.frz ob (.dT kvs))) kvs xs:=by
  refine h1l (fun b ys e=>?_) kt
  have nb:b≠a:=fun q=>by rw[q,ha]at e;cases e
  rw[a0o nb];exact e
 have I3:=I2.write (x:=a) (e:=a) (o:=.frz ob (.dT kvs)) (t':=s1.toks) (h':=(s1.heap.push {cls:=.type "dict_items",data:=.fields #[.ref a]}).push {cls:=.type "dict_itemiterator",data:=.fields #[.none,.bool false,.ref a,.int 0 0,.int (es.size:Nat) 0,.int (ep:Nat) 0,.none,.none]}) (by rw[ha];exact True.intro) (.inl rfl) (fun b q _ e=>e) ⟨ob,ha2⟩ ⟨ha2,z,hd,xs,kt2,ob,es,ep,ha2,hx,hdat,hes,hnd⟩
 have lt:a<s1.heap.objs.size:=Heap.lt_size eo
 have sz:(s1.heap.push {cls:=.type "dict_items",data:=.fields #[.ref a]}).objs.size=s1.heap.objs.size+1:=Heap.size_push _ _
 have ne:a≠(s1.heap.push {cls:=.type "dict_items",data:=.fields #[.ref a]}).objs.size:=by rw[sz];exact Nat.ne_of_lt (Nat.lt_succ_of_lt lt)
 have T:Turn X.prog X.w X.K (.Tuple elts x1 tpos) (Iti a ob kvs) [(s1.heap.push {cls:=.type "dict_items",data:=.fields #[.ref a]}).objs.size] (s1.heap.push {cls:=.type "dict_items",data:=.fields #[.ref a]}).objs.size (fun i h=>∃ok ov,IsItemIter h (s1.heap.push {cls:=.type "dict_items",data:=.fields #[.ref a]}).objs.size a i es.size ep ok ov) :=
  t0q ne hdat hsz
 refine⟨_,_,_,_,_,rfl,I3,T,⟨_,_,Heap.get?_push_size _ rfl⟩,fun b hb=>?_,q1 ob⟩
 rw[List.mem_singleton.mp hb]
 refine I1.fpOk (by rw[sz];exact Nat.le_succ _) ?_
 rw[a0o ne.symm,sz]
 exact I1.hok.fresh (Nat.le_succ _)
section
variable {K:PySem.W.Frag}{td:TE}{ad:AE}
def z0y (p:List Key×D):D:=.tup [.tup (p.1.map kD),p.2]
def f1c (a:AE):AI:=fun ρ q=>a ρ fun r ρ1=>match r with
 | .o i=>(match gt ρ1 i with | .dt kvs=>q (kvs.map z0y) (fun _=>True) (pt ρ1 i .un) | _=>False)
 | _=>False
theorem r0h {H:Hp}:∀ks:List Key,RepDs K H (ks.map kV) (ks.map kD)
 | []=>.nil
 | k::ks=>.cons (h1r k) (r0h ks)
theorem q0e {pin:Nat->Bool}(h:TEok K td ad):TIok K pin (x0f td) (f1c ad):=by
 intro F σ ρ H q Rk r ha k
 refine h F σ ρ H _ _ r ha fun r1 ρ1 x H1 h1 o1=>?_
 obtain⟨r1',k1,i1⟩:=o1.inF
 split at h1
 ·rename_i j
  have ej:σ[j]? = some (some x):=i1
  split at h1
  ·rename_i kvs hg
   obtain⟨t,ks,rfl,ht,e1,e2⟩:=r0k r1' ej hg
   refine⟨t,ks,rfl,ht,fun ob=>?_⟩
   obtain⟨rg,kg,vg⟩:=r1'.giveUp (i:=j) (a:=t) (o:=.frz ob (.dT ks)) (by rw[hg];rfl) ej
   refine k _ _ _ _ _ h1 rg (k1.trans kg) fun σ2 ρ2 H2 sm _ _ al _=>?_
   have h2:H2 t=some (.frz ob (.dT ks)):=(f0p.mp (sm _ _ (f0e vg a0y))).2
   have e2':=(e2.same kg.vis).same sm
   have hlen:ks.length=kvs.length:=by have:=congrArg List.length e1;simpa using this
   intro i
   refine⟨fun d hd=>?_,fun hi=>⟨h2,by simpa [hlen] using hi⟩⟩
   rw[List.getElem?_map]at hd
   obtain⟨⟨kk,dv⟩,hk,rfl⟩:=Option.map_eq_some_iff.mp hd
   have hi:i<kvs.length:=(List.getElem?_eq_some_iff.mp hk).1
   refine⟨⟨h2,by omega⟩,fun y H' hy=>?_⟩
   obtain⟨p,b,kk',yv,rfl,hp,rfl,hx,hb⟩:=hy
   have ek:kk'=kk:=by
    have:=congrArg (fun l=>l[i]?) e1
    simp only[List.getElem?_map,hx,hk,Option.map_some]at this
    exact Option.some.inj this
   subst ek
   obtain⟨v',ev,rv⟩:=e2'.get (show(kvs.map Prod.snd)[i]? = some dv by rw[List.getElem?_map,hk];rfl)
   rw[List.getElem?_map,hx]at ev
   cases ev
   have nb:¬hs F σ2 ρ2 b:=fun z=>(al b z).2 _ hb
   have np:¬hs F σ2 ρ2 p:=fun z=>(al p z).1 hp
   have sm2:Same H2 (upd H2 p (.tup [.ref b,yv])):=(Same.refl H2).new hp
   have sm':Same (hid H2 (hs F σ2 ρ2)) (hid (upd H2 p (.tup [.ref b,yv])) (hs F σ2 ρ2)):=b0f fun a o e n=>⟨sm2 a o e,n⟩
   refine⟨sm2,?_⟩
   unfold z0y RepD
   refine⟨p,[.ref b,yv],rfl,f0e np a0y,.cons ?_ (.cons (rv.same sm') .nil)⟩
   unfold RepD
   exact⟨b,_,rfl,sm' _ _ (f0e nb hb),r0h _⟩
  ·exact h1.elim
 ·exact h1.elim
end
theorem c1l:bootBuiltins "any" = some (.builtin "any"):=by decide +kernel
section
variable {X:Cx}(K:PySem.W.Frag)
theorem p0r (hc:X.calm=true)(hK:X.K=K:=by rfl):i0a X (.builtin "any") (fun xs H Q=>∃(p:Addr) (bs:List Bool),xs=[.ref p]/\SqL K H p (bs.map V.bl)/\Q (.bl (bs.any id)) H):=by
 subst hK
 intro pins s σ H xs us Q I r h
 obtain⟨p,bs,rfl,hq,q⟩:=h
 obtain⟨u,rfl,ru⟩:=m0d r
 cases ru
 obtain⟨its,rv,pl,hz⟩:=I.list hq
 refine call_any_walk (wpAny_pyIter_list pl.isList ?_)
 have hne:p≠s.heap.objs.size:=Nat.ne_of_lt (by obtain⟨o,n,e,_⟩:=pl;exact Heap.lt_size e)
 have hl:its.length=bs.length:=by have:=rv.length;rw[List.length_map]at this;omega
 refine⟨s.heap.objs.size,_,_,_,_,_,fun i=>bs.getD i false,rfl,Walks.list (A:=X.A.in1) (show X.A.in1.handled=none from I.ok.hd hc) s.heap.objs.size p hne its.toArray,⟨⟨_,Heap.get?_push_size _ rfl,rfl,rfl⟩,?_⟩,fun i v s' Q' E' hv hQ'=>?_,fun h' tk hk=>?_⟩
 ·exact pl.isList.at fun o e=>Heap.get?_push_of_some _ e
 ·have hv':its[i]? = some v:=by simpa using hv
  have hi:i<its.length:=(List.getElem?_eq_some_iff.mp hv').1
  obtain⟨w,e1,e2⟩:=rv.get (i:=i) (x:=V.bl bs[i]) (by rw[List.getElem?_map,List.getElem?_eq_getElem (by omega)];rfl)
  rw[hv']at e1;cases e1
  cases e2
  have hQ2:Q' (bs.getD i false) s':=hQ'
  rw[List.getD_eq_getElem?_getD,List.getElem?_eq_getElem (by omega)]at hQ2
  exact wpAny_truthy_bool hQ2
 ·rw[List.size_toArray,hl]
  have e:((List.range bs.length).any fun i=>bs.getD i false)=bs.any id:=by
   rw[Bool.eq_iff_iff]
   simp only[List.any_eq_true,List.mem_range,id]
   constructor
   ·rintro⟨i,hi,g⟩
    rw[List.getD_eq_getElem?_getD,List.getElem?_eq_getElem hi]at g
    exact⟨_,List.getElem_mem hi,g⟩
   ·rintro⟨b,hb,g⟩
    obtain⟨i,hi,rfl⟩:=List.getElem_of_mem hb
    refine⟨i,hi,?_⟩
    rw[List.getD_eq_getElem?_getD,List.getElem?_eq_getElem hi]
    exact g
  rw[e]
  refine⟨.bl (bs.any id),H,I.kept fun b o e=>?_,rfl,q⟩
  refine hk b o (fun z=>?_) (Heap.get?_push_of_some _ e)
  rw[List.mem_singleton.mp z]at e
  exact absurd (Heap.lt_size e) (Nat.lt_irrefl _)
end
section
variable {K:PySem.W.Frag}{td ty tx:TE}{ad ay ax:AE}
@[irreducible] def gAny:List R->AE:=fun rs ρ q=>match rs with
 | [r]=>(match view ρ r with
  | some (.lst ds)=>(match i0l ds with | some bs=>q (.d (.bl (bs.any id))) ρ | none=>False)
  | _=>False)
 | _=>False
theorem t0h:CbOk K (fun xs H Q=>∃(p:Addr) (bs:List Bool),xs=[.ref p]/\SqL K H p (bs.map V.bl)/\Q (.bl (bs.any id)) H) gAny:=by
 intro F σ ρ H vs rs q Q a i h b
 unfold gAny at h
 split at h
 ·obtain⟨x,rfl,i1⟩:=i.one
  split at h
  ·rename_i ds e
   split at h
   ·rename_i bs e'
    obtain⟨l,vs,rfl,sq,rd⟩:=c0q a i1 e
    rw[n0o e']at rd
    rw[w0b rd]at sq
    exact⟨l,bs,rfl,sq,b.bl a h⟩
   ·exact h.elim
  ·exact h.elim
 ·exact h.elim
theorem x0m {r:R}{ρ:En}{q:Ko}{bs:List Bool}(hv:view ρ r=some (.lst (bs.map D.bl)))(hq:q (.d (.bl (bs.any id))) ρ):gAny [r] ρ q:=by
 unfold gAny
 simp only[hv,p0u]
 exact hq
def f1d (a i x:AE):AE:=fun ρ q=>a ρ fun r ρ1=>match r with
 | .o j=>(match gt ρ1 j with
  | .dt _=>i ρ1 fun r2 ρ2=>x ρ2 fun r3 ρ3=>(match r2,r3,gt ρ3 j with
   | .d d,.d z,.dt kvs=>u0n d fun k=>q (.d ((valD kvs k).getD z)) ρ3
   | _,_,_=>False)
  | _=>False)
 | _=>False
theorem l0g (ha:TEok K td ad)(hi:TEok K ty ay)(hx:TEok K tx ax):TEok K (b1o td ty tx) (f1d ad ay ax):=by
 intro F σ ρ H q Q r h k
 refine ha F σ ρ H _ _ r h fun r1 ρ1 x H1 h1 o1=>?_
 obtain⟨r1',k1,i1⟩:=o1.inF
 split at h1
 ·rename_i j
  have ej:σ[j]? = some (some x):=i1
  split at h1
  ·rename_i kvs0 hg0
   obtain⟨t0,ks0,rfl,ht0,_,_⟩:=r0k r1' ej hg0
   refine⟨t0,rfl,.inr ⟨_,.inl ht0⟩,?_⟩
   refine hi F σ ρ1 H1 _ _ r1' h1 fun r2 ρ2 y H2 h2 o2=>?_
   obtain⟨r2',k2,i2⟩:=o2.inF
   refine hx F σ ρ2 H2 _ _ r2' h2 fun r3 ρ3 z H3 h3 o3=>?_
   obtain⟨r3',k3,i3⟩:=o3.inF
   split at h3
   ·rename_i d zd kvs hg
    unfold u0n at h3
    obtain⟨kk,ek,h3⟩:=h3
    obtain⟨t,ks,et,ht,e1,e2⟩:=r0k r3' ej hg
    cases et
    obtain⟨b,rfl,hb⟩:=r0g (RepD.same i2 k3.vis) ek
    refine⟨valV ks kk,DGet.t ht hb,?_⟩
    obtain⟨v1,v2⟩:=q0c kk e1 e2
    cases hv:valD kvs kk with
    | none =>
     rw[v2 hv]
     rw[hv]at h3
     exact(((k.after k1).after k2).after k3).dat r3' h3 i3
    | some dd =>
     obtain⟨v,ev,rv⟩:=v1 dd hv
     rw[ev]
     rw[hv]at h3
     exact(((k.after k1).after k2).after k3).dat r3' h3 rv
   ·exact h3.elim
  ·exact h1.elim
 ·exact h1.elim
end
def ltIP (x y:Int×List Int):Bool:=if x.1=y.1 then HT.lexLt x.2 y.2 else decide (x.1<y.1)
theorem e1a (i j:Int)(ns ms:List Int):ltIP (i,ns) (j,ms)=HT.lexLt (i::ns) (j::ms):=(HT.lexLt_cons i j ns ms).symm
theorem q0d (l b p q:Addr)(i j:Int)(ti tj:Tok)(n n2:Nat)(dd dd2:Option Addr)(sl sl2:Array (Option Value))(ns ms:List Int) :
  Meets (Builtin.«tuple.__lt__» {pos:=[Value.ref l,Value.ref b]}) fun A R s =>
   s.heap.get? l=some {cls:=.type "tuple",dict:=dd,data:=.seq #[.int i ti,.ref p] n,slots:=sl} /\
   s.heap.get? b=some {cls:=.type "tuple",dict:=dd2,data:=.seq #[.int j tj,.ref q] n2,slots:=sl2} /\
   (∀(prog:Program) (w:World) (E:Value->Shared->Prop) (Q:Bool->Shared->Prop),Q (decide (ns=ms)) s->wpAny (model prog w) A.in1 (eqBool (.ref p) (.ref q)) Q E s) /\
   (∀(prog:Program) (w:World) (E:Value->Shared->Prop) (Q:Value->Shared->Prop),Q (.bool (HT.lexLt ns ms)) s->wpAny (model prog w) A.in1 (richCompare .Lt (.ref p) (.ref q)) Q E s) /\
   R (Except.ok (Flow.ret (Value.bool (ltIP (i,ns) (j,ms))))) s :=
 Meets.of_wp fun prog w A R s ⟨hl,hb,he,hr,h⟩=>by
  obtain⟨hp,g,d,tk,os⟩:=s
  refine wpAny_bind (wpAny_pure ?_)
  refine wpAny_bind (wpAny_isInstance (T := "tuple") (b:=true) ?_ AutoSeq1.sub_tuple_tuple ?_)
  ·exact⟨_,hb,rfl⟩
  refine wpAny_bind (wpAny_tupleItemsOf hl rfl (wpAny_bind (wpAny_tupleItemsOf hb rfl ?_)))
  refine wpAny_bind ?_
  show wpAny _ _ (forIn [(Value.int i ti,Value.int j tj),(Value.ref p,Value.ref q)] _ _) _ _ _
  rw[List.forIn_cons]
  refine wpAny_bind (wpAny_bind (wpAny_eqBool_int ?_))
  by_cases e:i=j
  ·rw[show(i==j)=true from beq_iff_eq.mpr e]
   refine wpAny_pure ?_
   show wpAny _ _ (forIn [(Value.ref p,Value.ref q)] _ _) _ _ _
   rw[List.forIn_cons]
   refine wpAny_bind (wpAny_bind (he _ _ _ _ ?_))
   by_cases e2:ns=ms
   ·rw[decide_eq_true e2]
    refine wpAny_pure ?_
    show wpAny _ _ (forIn ([]:List (Value×Value)) _ _) _ _ _
    rw[List.forIn_nil]
    refine wpAny_pure (wpAny_pure ⟨_,rfl,?_⟩)
    have:ltIP (i,ns) (j,ms)=false:=by unfold ltIP;rw[if_pos e,<- e2];exact m0w _
    rw[this]at h
    exact h
   ·rw[decide_eq_false e2]
    refine wpAny_bind (wpAny_rule (wpAny_bind (hr _ _ _ _ (wpAny_bind (wpAny_pure (wpAny_pure (wpAny_pure (wpAny_pure ⟨_,rfl,?_⟩))))))))
    have:ltIP (i,ns) (j,ms)=HT.lexLt ns ms:=by unfold ltIP;rw[if_pos e]
    rw[this]at h
    exact h
  ·rw[show(i==j)=false from beq_eq_false_iff_ne.mpr e]
   refine wpAny_bind (wpAny_rule (wpAny_bind (HT.rcLt_int _ _ _ _ _ _ _ _ _ _ (wpAny_bind (wpAny_pure (wpAny_pure (wpAny_pure (wpAny_pure ⟨_,rfl,?_⟩))))))))
   have:ltIP (i,ns) (j,ms)=decide (i<j):=by unfold ltIP;rw[if_neg e]
   rw[this]at h
   exact h
section
variable {prog:Program}{w:World}{A:Around}{it:Addr}{own wr:List Addr}{len:Nat}{Pv:Nat->Value->Prop}{Sx:Nat->Heap->Prop}{Rz:Result->Shared->Prop}
theorem y0h {A:Around}{E:Value->Shared->Prop}{s:Shared}{x:Value}{Q:Value->Shared->Prop}
  (h:wpAny (model prog w) A.in1 (pyIter x) (fun i s2=>∃it own wr len Pv Sx bt,i = .ref it/\Walks prog w A.in1 it own wr len Pv Sx/\Sx 0 s2.heap/\(∀b∈own,b<s2.heap.objs.size)/\0<len /\
   i1x prog w A.in1 .Lt (fun h=>∀b o,b∉wr->s2.heap.get? b=some o->h.get? b=some o) Pv bt /\
   (∀v g z,Pv (argBest bt (len - 1)) v->(∀b o,b∉wr->s2.heap.get? b=some o->g.get? b=some o)->Q v {s2 with heap:=g,toks:=z})) E s) :
  wpAny (model prog w) A (call (.builtin "min") [x] []) Q E s:=by
 have nm:(toString "min" ++ toString ".loop" : String) = "min.loop" := by decide
 have ha:argsOk "min" ⟨[x],[]⟩:=by unfold argsOk;kernel_rfl
 have go:wpAny (model prog w) A.in1 (Builtin.«min» ⟨[x],[]⟩) (fun fin s'=>match fin with
   | .done f=>(match (Except.ok f:Result)with | .ok (.ret v)=>Q v s' | .ok _=>False | .error e=>E e s')
   | .again c=>c.quiet=true/\codeAny (model prog w) A c (fun r s'=>match r with | .ok (.ret v)=>Q v s' | .ok _=>False | .error e=>E e s') s') E s:=by
  show wpAny _ A.in1 (Builtin.Builtins.bindParams "min" ["key", "default"] 0 ⟨[],[]⟩>>=_) _ _ s
  refine wpAny_bind (wpAny_of_eq (show Builtin.Builtins.bindParams "min" ["key", "default"] 0 ⟨[],[]⟩=pure [none,none]from rfl) ?_)
  refine wpAny_bind (wpAny_pure ?_)
  refine wpAny_bind (wpAny_mono h (fun i s2 h2=>?_) fun _ _ e=>e)
  obtain⟨it,own,wr,len,Pv,Sx,bt,rfl,Wk,h0,hown,pos,cmp,k1⟩:=h2
  refine wpAny_bind (wpAny_newObj_type ?_)
  have nT:s2.heap.objs.size∉own:=fun q=>Nat.lt_irrefl _ (hown _ q)
  have nW:s2.heap.objs.size∉wr:=fun z=>nT (Wk.sub _ z)
  rw[nm]
  refine wpAny_pure ⟨plainId_quiet F.plain_min_loop _,?_⟩
  have st1:Sx 0 (s2.heap.push {cls:=.type "list",data:=.seq #[] 0}):=Wk.frame _ _ _ h0 fun b _ o e=>Heap.get?_push_of_some _ e
  refine codeAny_builtin F.entry_min_loop ?_
  rw[Around.under_plainId F.plain_min_loop _]
  refine wpAny_bind (wpAny_seqItems (Heap.get?_push_size _ rfl) rfl ?_)
  refine wpAny_bind (wpAny_tryCatch (Wk.item 0 _ _ _ pos st1 fun v g tk hv st2 kp=>?_))
  have hT2:=kp _ _ nW (Heap.get?_push_size s2.heap rfl)
  refine wpAny_bind (wpAny_pure ?_)
  refine wpAny_bind (wpAny_updateSeq hT2 rfl ?_)
  rw[nm]
  refine wpAny_pure ⟨plainId_quiet F.plain_min_loop _,e1b _ (fun h=>∀b o,b∉wr->s2.heap.get? b=some o->h.get? b=some o) Wk bt cmp s2.heap.objs.size nT (fun h h' hg kk b o n1 e=>kk b o n1 (Nat.ne_of_lt (Heap.lt_size e)) (hg b o n1 e)) _ 0 _ v _ rfl pos (fun b o n1 e=>?_) (Wk.frame _ _ _ st2 fun b ho o e=>?_) hv (Heap.get?_update_self _ hT2 rfl) fun v2 g2 z2 h2 kk=>?_⟩
  ·have n2:b≠s2.heap.objs.size:=Nat.ne_of_lt (Heap.lt_size e)
   exact(Heap.get?_update_other _ _ (Ne.symm n2)).trans (kp b o n1 (Heap.get?_push_of_some _ e))
  ·refine(Heap.get?_update_other _ _ (fun q:s2.heap.objs.size=b=>nT ?_)).trans e
   rw[q];exact ho
  ·refine k1 v2 g2 z2 h2 fun b o n1 e=>?_
   have n2:b≠s2.heap.objs.size:=Nat.ne_of_lt (Heap.lt_size e)
   exact kk b o n1 n2 ((Heap.get?_update_other _ _ (Ne.symm n2)).trans (kp b o n1 (Heap.get?_push_of_some _ e)))
 refine wpAny_call (codeAny_call_builtin F.plain_min F.entry_min ?_)
 simp only[checkBuiltinCall,F.kind_min]
 cases hsig:Manifest.signature? "min" with
 | none=>exact wpAny_pure go
 | some sig =>
  have h2:Bind.checkArgs "min" sig ⟨[x],[]⟩=pure ():=by simpa only[argsOk,hsig] using ha
  simp only[h2]
  exact wpAny_pure go
end
theorem u0g {prog:Program}{w:World}{vs:List Value}{ns:List Int}(h:IntsAre vs ns):ItemsAre (intKind prog w) ns vs:=by
 induction h with
 | nil=>exact .nil
 | cons n t _ ih=>exact .cons (show Value.isInt n (.int n t)=true by simp[Value.isInt]) ih
theorem s0u {prog:Program}{w:World}{h:Heap}{a:Addr}{xs:Array Value}{ns:List Int}(ht:IsTup h a xs)(hi:IntsAre xs.toList ns):IsTupleKey (intKind prog w) h ns a:=by
 obtain⟨o,ho,hc,n,hd⟩:=ht
 exact⟨o,xs,n,ho,hc,hd,u0g hi⟩
theorem j1i {prog:Program}{w:World}{A:Around}{E:Value->Shared->Prop}{s:Shared}{l b p q:Addr}{i j:Int}{ti tj:Tok}{xs ys:Array Value}{ns ms:List Int}{Q:Value->Shared->Prop}(hl:IsTup s.heap l #[.int i ti,.ref p])(hb:IsTup s.heap b #[.int j tj,.ref q])
  (hp:IsTup s.heap p xs) (hx:IntsAre xs.toList ns) (hq:IsTup s.heap q ys) (hy:IntsAre ys.toList ms) (hu:A.units+1<cLine) (h:Q (.bool (HT.lexLt (i::ns) (j::ms))) s):wpAny (model prog w) A (richCompare .Lt (.ref l) (.ref b)) Q E s:=by
 obtain⟨⟨c1,d1,da1,s1⟩,ho,hc,n,hd⟩:=hl
 obtain⟨⟨c2,d2,da2,s2⟩,ho2,hc2,n2,hd2⟩:=hb
 simp only at hc hd hc2 hd2
 subst hc hd hc2 hd2
 refine richCompare_meets_room (T := "tuple") ⟨_,ho,rfl⟩ ⟨_,ho2,rfl⟩ F.slot_tuple_lt F.entry_tuple_lt (F.args_tuple_lt_2 _ _) (q0d l b p q i j ti tj n n2 d1 d2 s1 s2 ns ms) ⟨ho,ho2,fun prog w E Q hQ=>wpAny_eqBool_tuple (knd:=intKind prog w) hu (s0u hp hx) (s0u hq hy) hQ,fun prog w E Q hQ=>HT.lt_tupInts hp hq hx hy hu hQ,?_⟩ (by omega)
 rw[e1a]
 exact⟨(fun z=>nomatch z),h⟩
section
variable {X:Cx}(K:PySem.W.Frag)
def b1v (K:PySem.W.Frag):List V->Hp->VK->Prop:=fun xs H Q=>∃(p:Addr) (vs:List V) (fs:List (Int×List Int)),xs=[.ref p]/\SqL K H p vs/\vs.length=fs.length/\fs≠[]/\(∀(i:Nat) v,vs[i]? = some v->∃a b,v = .ref a/\SqT K H a [.int (fs.getD i (0,[])).1,.ref b]/\SqT K H b ((fs.getD i (0,[])).2.map V.int)) /\
 (∀(i:Nat) v,vs[i]? = some v->(∀j,j<vs.length->HT.lexLt ((fs.getD j (0,[])).1::(fs.getD j (0,[])).2) ((fs.getD i (0,[])).1::(fs.getD i (0,[])).2)=false)->Q v H)
theorem u0u (hu:X.A.units+64<cLine)(hc:X.calm=true)(hK:X.K=K:=by rfl):i0a X (.builtin "min") (b1v K):=by
 subst hK
 intro pins s2 σ H2 xs0 us0 Q I2 r h
 obtain⟨a,vs,fs,rfl,hq,hln,hne0,hts,q1⟩:=h
 obtain⟨u1,rfl,ru⟩:=m0d r
 cases ru
 obtain⟨its,rv,pl,hz⟩:=I2.list hq
 have hl:its.length=vs.length:=by have:=rv.length;omega
 have hpos:0<vs.length:=by rw[hln];exact List.length_pos_iff.mpr hne0
 have hne:a≠s2.heap.objs.size:=Nat.ne_of_lt (by obtain⟨o,n,e,_⟩:=pl;exact Heap.lt_size e)
 have nw:∀b o,s2.heap.get? b=some o->b∉[s2.heap.objs.size]:=fun b o e z=>by
  rw[List.mem_singleton.mp z]at e
  exact absurd (Heap.lt_size e) (Nat.lt_irrefl _)
 refine y0h (wpAny_pyIter_list pl.isList ?_)
 refine⟨s2.heap.objs.size,_,_,_,_,_,fun i j=>HT.lexLt ((fs.getD i (0,[])).1::(fs.getD i (0,[])).2) ((fs.getD j (0,[])).1::(fs.getD j (0,[])).2),rfl,Walks.list (A:=X.A.in1) (show X.A.in1.handled=none from I2.ok.hd hc) s2.heap.objs.size a hne its.toArray,⟨⟨_,Heap.get?_push_size _ rfl,rfl,rfl⟩,pl.isList.at fun o e=>Heap.get?_push_of_some _ e⟩,fun b hb=>?_,by rw[List.size_toArray,hl];exact hpos,?_,fun v g z hv kp=>?_⟩
 ·rw[Heap.size_push]
  rcases List.mem_cons.mp hb with rfl | hb
  ·exact Nat.lt_succ_self _
  ·rw[List.mem_singleton.mp hb]
   obtain⟨o,n,e,_⟩:=pl
   exact Nat.lt_succ_of_lt (Heap.lt_size e)
 ·intro i j vi vj s' Q' E' hG hvi hvj hq'
  have up:∀ {b:Addr} {us:Array Value},IsTup s2.heap b us->IsTup s'.heap b us:=fun{b us} pt=>by
   obtain⟨o,ho,hr⟩:=pt
   exact⟨o,hG b o (nw b o ho) (Heap.get?_push_of_some _ ho),hr⟩
  have get:∀(i:Nat) v,its.toArray[i]? = some v->∃(b c:Addr) (t:Tok) (us:List Value),v = .ref b/\IsTup s'.heap b #[.int (fs.getD i (0,[])).1 t,.ref c]/\IsTup s'.heap c us.toArray/\IntsAre us (fs.getD i (0,[])).2:=fun i v hv=>by
   have hv':its[i]? = some v:=by simpa using hv
   have hi:i<its.length:=(List.getElem?_eq_some_iff.mp hv').1
   obtain⟨x,e1,e2⟩:=rv.get (i:=i) (x:=vs[i]'(by omega)) (List.getElem?_eq_getElem (by omega))
   rw[hv']at e1;cases e1
   obtain⟨b,c,eb,sq,sq2⟩:=hts i _ (List.getElem?_eq_getElem (by omega))
   rw[eb]at e2
   cases e2
   obtain⟨us,ru,pt,_⟩:=I2.tuple sq
   obtain⟨us2,ru2,pt2,_⟩:=I2.tuple sq2
   obtain⟨u1,u2,rfl,rr1,rr2⟩:=c1w ru
   obtain⟨t,rfl⟩:=(show ∃t,u1=Value.int (fs.getD i (0,[])).1 t from rr1)
   obtain rfl:u2=Value.ref c:=rr2
   exact⟨b,c,t,us2,rfl,up pt,up pt2,u0k ru2⟩
  obtain⟨b1,c1,t1,us1,rfl,k1,k2,k3⟩:=get i vi hvi
  obtain⟨b2,c2,t2,us2,rfl,l1,l2,l3⟩:=get j vj hvj
  exact j1i k1 l1 k2 (by simpa using k3) l2 (by simpa using l3) (show X.A.units+1+1<cLine by omega) hq'
 ·rw[List.size_toArray,hl]at hv
  obtain⟨m1,m2⟩:=k0r (fun i=>(fs.getD i (0,[])).1::(fs.getD i (0,[])).2) (vs.length - 1)
  generalize argBest (fun i j=>HT.lexLt ((fs.getD i (0,[])).1::(fs.getD i (0,[])).2) ((fs.getD j (0,[])).1::(fs.getD j (0,[])).2)) (vs.length - 1)=bi at m1 m2 hv
  have hv':its[bi]? = some v:=by simpa using hv
  obtain⟨x,e1,e2⟩:=rv.get (i:=bi) (x:=vs[bi]'(by omega)) (List.getElem?_eq_getElem (by omega))
  rw[hv']at e1;cases e1
  exact⟨_,H2,I2.kept fun b o e=>kp b o (nw b o e) (Heap.get?_push_of_some _ e),e2,q1 bi _ (List.getElem?_eq_getElem (by omega)) fun j hj=>m2 j (by omega)⟩
end
section
variable {K:PySem.W.Frag}
abbrev ipL (f:Int×List Int):List Int:=f.1::f.2
def ipD (f:Int×List Int):D:=.tup [.int f.1,tupI f.2]
@[irreducible] def gMinIP:List R->AE:=fun rs ρ q=>match rs with
 | [r]=>∃fs:List (Int×List Int),view ρ r=some (.lst (fs.map ipD))/\fs≠[]/\∀i,i<fs.length->(∀j,j<fs.length->HT.lexLt (ipL (fs.getD j (0,[]))) (ipL (fs.getD i (0,[])))=false)->q (.d (ipD (fs.getD i (0,[])))) ρ
 | _=>False
theorem x0j {r:R}{ρ:En}{q:Ko}{fs:List (Int×List Int)}(hv:view ρ r=some (.lst (fs.map ipD)))(h0:fs≠[])(h1:∀i,i<fs.length->(∀j,j<fs.length->HT.lexLt (ipL (fs.getD j (0,[]))) (ipL (fs.getD i (0,[])))=false)->q (.d (ipD (fs.getD i (0,[])))) ρ):gMinIP [r] ρ q:=by
 unfold gMinIP;exact⟨fs,hv,h0,h1⟩
theorem u0t:CbOk K (b1v K) gMinIP:=by
 intro F σ ρ H vs rs q Q a i h b
 unfold gMinIP at h
 split at h
 ·obtain⟨x,rfl,i1⟩:=i.one
  obtain⟨fs,e,hne,h1⟩:=h
  obtain⟨l,us,rfl,sq,rd⟩:=c0q a i1 e
  have hlen:us.length=fs.length:=by have:=rd.length;rw[List.length_map]at this;omega
  have get:∀(i:Nat) v,us[i]? = some v->RepD K (hid H (hs F σ ρ)) v (ipD (fs.getD i (0,[]))):=fun i v hv=>by
   have hi:i<us.length:=(List.getElem?_eq_some_iff.mp hv).1
   obtain⟨v',e1,e2⟩:=rd.get (i:=i) (d:=ipD (fs.getD i (0,[]))) (by rw[List.getElem?_map,List.getElem?_eq_getElem (by omega),List.getD_eq_getElem?_getD,List.getElem?_eq_getElem (by omega)];rfl)
   rw[hv]at e1;cases e1;exact e2
  refine⟨l,us,fs,rfl,sq,hlen,hne,fun i v hv=>?_,fun i v hv hle=>b.dat a (h1 i (by have:=(List.getElem?_eq_some_iff.mp hv).1;omega) fun j hj=>hle j (by omega)) (get i v hv)⟩
  have rg:=get i v hv
  unfold ipD RepD at rg
  obtain⟨p,ws,rfl,sq2,rr⟩:=rg
  match ws,rr with
  | [w1,w2],rr =>
   unfold RepDs at rr
   obtain⟨r1,r2⟩:=rr
   unfold RepDs at r2
   obtain⟨r2,_⟩:=r2
   unfold RepD at r1
   subst r1
   unfold RepD at r2
   obtain⟨c,ws2,rfl,sq3,rr3⟩:=r2
   rw[q0k]at rr3
   rw[rr3]at sq3
   exact⟨p,c,rfl,c0i.seqT sq2.sq,c0i.seqT sq3.sq⟩
  | [],rr=>unfold RepDs at rr;exact rr.elim
  | [_],rr=>unfold RepDs at rr;obtain⟨_,r2⟩:=rr;unfold RepDs at r2;exact r2.elim
  | _::_::_::_,rr=>unfold RepDs at rr;obtain⟨_,r2⟩:=rr;unfold RepDs at r2;obtain⟨_,r3⟩:=r2;unfold RepDs at r3;exact r3.elim
 ·exact h.elim
end
section
variable {P:Program}{w:World}{K:PySem.W.Frag}{mg:Str->Option Value}{base:Heap}{N:List Str}{qual:Str}{scope:Scope}{f:Addr}{cd:Value}{A:Around}{outer:List Env}{s0:Shared}{H0:Hp}{E:XK}
theorem j1d:q0a (CX1 P w) (cxOf (CX1 P w) P w K mg base N qual scope f cd A outer s0 H0 E).inFor E:=by
 rintro pins σ H s e s' I ⟨a,C,od,H',rfl,os,bare,un,hok,hot,hy,he⟩
 have I':=I.unwish
 exact h1i (I'.call' os un hok bare fun b z=>nomatch z) (hot.older fun b q=>I'.back0 rfl q) (fun dx q=>I'.back0 rfl (hy dx q)) he
end
section
variable {X:Cx}{R:VK}{pos:Pos}
theorem w0g {c:Expr}{body:List Stmt}{tc:TT}{tb:TS}(hc:PT X.nox c tc)(hb:PSsr X.inFor R body tb):PSr X R (.While c body [] pos) (v0n tc tb):=by
 intro pins s σ H D e I h
 obtain⟨W,⟨m0,w0⟩,turn⟩:=h
 refine wpAny_While (codeAny_whileLoop (fun n s'=>∃ σ' H',Inv X pins σ' H' s'/\W n σ' H') ?_ m0 ⟨σ,H,I,w0⟩)
 rintro n s1 ⟨σ1,H1,I1,w1⟩
 refine wpAny_mono (hc pins s1 σ1 H1 _ (I1.wish _) (turn n σ1 H1 w1)) (fun b s2 ⟨H2,I2,q2⟩=>?_) fun _ _ z=>False.elim z
 cases b with
 | true =>
  obtain⟨N,hN,q2⟩:=q2
  rw[if_pos rfl]
  refine thn (hb pins s2 σ1 H2 {D with nx:=N,ct:=N,bk:=D.nx} e (I2.unwish.wish _) q2) fun f s3 q3=>?_
  cases f with
  | next =>
   obtain⟨σ3,H3,I3,n3⟩:=q3
   obtain⟨m',hm,w3⟩:=hN σ3 H3 n3
   exact⟨m',hm,σ3,H3,I3.unwish,w3⟩
  | cont=>exact q3.elim
  | brk=>exact q3.elim
  | ret v=>exact q3.elim
 | false =>
  rw[if_neg Bool.false_ne_true]
  exact wpAny_execs_nil ⟨σ1,H2,I2.unwish,q2⟩
end
end L2
set_option maxHeartbeats 2000000
namespace L2
open PySem PySem.Spec PyProof.Rows
end L2
namespace L2
open PySem
end L2
namespace L2
open PySem PySem.Spec PyProof.Rows
end L2
set_option maxHeartbeats 3200000
namespace L2
open PySem PySem.Spec PyProof.Rows
end L2
set_option maxHeartbeats 1000000
namespace L2
open PySem PySem.Spec PyProof.Rows
end L2
namespace L2
open PySem PySem.Spec PyProof.Rows PySem.W
end L2
namespace L2
open PySem PySem.Spec PyProof.Rows
abbrev KIt (h:Heap)(it d:Addr)(i n ep:Nat):Prop:=h.get? it=some {cls:=.type "dict_keyiterator",data:=.fields #[.ref d,.int (i:Nat) 0,.int (n:Nat) 0,.int (ep:Nat) 0]}
theorem KIt.ki {h:Heap}{it d:Addr}{i n ep:Nat}(q:KIt h it d i n ep):h.IsKeyIter it d i n ep:=⟨_,q,rfl,rfl⟩
theorem w0r {prog:Program}{w:World}{A:Around}{E:Value->Shared->Prop}{s:Shared}{it d:Addr}{i ep:Nat}{od:Obj}{es:Array DictEntry}{e:DictEntry}{Q:Option Value->Shared->Prop}
  (hit:KIt s.heap it d i es.size ep) (hod:s.heap.get? d=some od) (hdd:od.data = .dict es ep) (he:es[i]? = some e)
  (hQ:∀h':Heap,KIt h' it d (i+1) es.size ep->Heap.SameBut it s.heap h'->Q (some e.key) {s with heap:=h'}) :
  wpAny (model prog w) A (pyNext (.ref it)) Q E s:=by
 have hT:s.TypeIs (.ref it) "dict_keyiterator" := hit.ki.typeIs
 refine wpAny_bind (wpAny_attempt (wpAny_callSpecial?_slot hT F.slot_dict_keyiterator_next (wpAny_call_entry F.slot_dict_keyiterator_next hT F.entry_dict_keyiterator_next (wpAny_bind (wpAny_pure (wpAny_bind (wpAny_bind (wpAny_bind (wpAny_typeNameOfWhole_keyiter hT (wpAny_pure (wpAny_bind (wpAny_fieldsOf hit rfl ?_)))))))) ) (F.args_dict_keyiterator_next_1 _))))
 have nown:Builtin.Dict_items.ownsTuple "dict_keyiterator" = false:=by decide
 rw[nown]
 show wpAny _ _ (ite ((Value.ref d==Value.none)=true) _ _) _ _ _
 rw[if_neg (by first | (intro z;cases z) | simp)]
 refine wpAny_bind (wpAny_pure (wpAny_bind (wpAny_dictEntries hod hdd ?_)))
 show wpAny _ _ (ite (((es.size:Int) != (es.size:Int))=true) _ _) _ _ _
 rw[if_neg (by simp)]
 refine wpAny_bind (wpAny_pure (wpAny_bind (wpAny_dictEpoch hod hdd ?_)))
 show wpAny _ _ (ite (((ep:Int) != (ep:Int))=true) _ _) _ _ _
 rw[if_neg (by simp)]
 refine wpAny_pure ?_
 show wpAny _ _ (match (if(i:Int)<0 then none else es[(i:Int).toNat]?)with | some e=>_ | none=>_) _ _ _
 rw[if_neg (by omega),Int.toNat_natCast,he]
 refine wpAny_bind (wpAny_bind (wpAny_typeNameOfWhole_keyiter hT (wpAny_pure (wpAny_bind (wpAny_isOneOf_keyiter hT ?_)))))
 refine wpAny_bind (wpAny_setField_rec hit (by show 1<4;decide) fun h1 g1 sb1=>?_)
 have g1':KIt h1 it d (i+1) es.size ep:=g1
 refine wpAny_bind (wpAny_holding (wpAny_bind (wpAny_isOneOf_keyiter (s:={s with heap:=h1}) g1'.ki.typeIs ?_)))
 exact wpAny_pure (wpAny_pure ⟨_,rfl,wpAny_pure (hQ h1 g1' sb1)⟩)
theorem m0v {prog:Program}{w:World}{A:Around}{E:Value->Shared->Prop}{s:Shared}{it d:Addr}{i ep:Nat}{od:Obj}{es:Array DictEntry}{Q:Option Value->Shared->Prop}
  (hh:A.handled=none) (hit:KIt s.heap it d i es.size ep) (hod:s.heap.get? d=some od) (hdd:od.data = .dict es ep) (he:es[i]? = none)
  (hQ:∀h':Heap,(∀b o,b≠it->s.heap.get? b=some o->h'.get? b=some o)->Q none {s with heap:=h'}) :
  wpAny (model prog w) A (pyNext (.ref it)) Q E s:=by
 have hT:s.TypeIs (.ref it) "dict_keyiterator" := hit.ki.typeIs
 refine wpAny_bind (wpAny_attempt (wpAny_callSpecial?_slot hT F.slot_dict_keyiterator_next (wpAny_call_entry F.slot_dict_keyiterator_next hT F.entry_dict_keyiterator_next (wpAny_bind (wpAny_pure (wpAny_bind (wpAny_bind (wpAny_bind (wpAny_typeNameOfWhole_keyiter hT (wpAny_pure (wpAny_bind (wpAny_fieldsOf hit rfl ?_)))))))) ) (F.args_dict_keyiterator_next_1 _))))
 have nown:Builtin.Dict_items.ownsTuple "dict_keyiterator" = false:=by decide
 rw[nown]
 show wpAny _ _ (ite ((Value.ref d==Value.none)=true) _ _) _ _ _
 rw[if_neg (by first | (intro z;cases z) | simp)]
 refine wpAny_bind (wpAny_pure (wpAny_bind (wpAny_dictEntries hod hdd ?_)))
 show wpAny _ _ (ite (((es.size:Int) != (es.size:Int))=true) _ _) _ _ _
 rw[if_neg (by simp)]
 refine wpAny_bind (wpAny_pure (wpAny_bind (wpAny_dictEpoch hod hdd ?_)))
 show wpAny _ _ (ite (((ep:Int) != (ep:Int))=true) _ _) _ _ _
 rw[if_neg (by simp)]
 refine wpAny_pure ?_
 show wpAny _ _ (match (if(i:Int)<0 then none else es[(i:Int).toNat]?)with | some e=>_ | none=>_) _ _ _
 rw[if_neg (by omega),Int.toNat_natCast,he]
 refine wpAny_bind (wpAny_bind (wpAny_typeNameOfWhole_keyiter hT (wpAny_pure ?_)))
 refine wpAny_bind (wpAny_setField_rec hit (by show 0<4;decide) fun h1 g1 sb1=>?_)
 have ho:∃n,n<=10/\(ownMembersOf (Value.type "StopIteration") []).size=n:=by
  first
  | exact⟨_,by decide,rfl⟩
  | exact⟨(ownMembersOf (Value.type "StopIteration") []).size,by decide +kernel,rfl⟩
 obtain⟨no,hno,eno⟩:=ho
 refine wpAny_bind (wpAny_bind (wpAny_newObj_type (wpAny_bind (wpAny_of_eq rfl (wpAny_newObj_type ?_ (by first | trivial | (unfold sizeOk;trivial) | (simp[sizeOk,sizeLine_eq,eno];omega) | (simp only[sizeOk,Array.size_append,eno,sizeLine_eq];simp;omega))))) (by show 0<=sizeLine;decide)))
 refine wpAny_bind (wpAny_handled ?_)
 rw[show A.in1.handled=none from hh]
 refine wpAny_bind (wpAny_pure (wpAny_throw ?_))
 refine wpAny_bind (wpAny_isInstance (T := "StopIteration") (v:=.ref _) ?_ isSubtype_stop (wpAny_pure (hQ _ fun b o hb q=>Heap.get?_push_of_some _ (Heap.get?_push_of_some _ ((sb1.2 b hb).trans q)))))
 exact⟨_,Heap.get?_push_size _ rfl,rfl⟩
theorem x0b {prog:Program}{w:World}{A:Around}{E:Value->Shared->Prop}{s:Shared}{d:Addr}{ep:Nat}{o:Obj}{es:Array DictEntry}{Q:Value->Shared->Prop}(hd:(d==sysModules)=false)(hT:s.TypeIs (.ref d) "dict")(ho:s.heap.get? d=some o)(hdat:o.data = .dict es ep)
  (hQ:Q (.ref s.heap.objs.size) {s with heap:=s.heap.push {cls:=.type "dict_keyiterator",data:=.fields #[.ref d,.int (0:Nat) 0,.int (es.size:Nat) 0,.int (ep:Nat) 0]}}) :
  wpAny (model prog w) A (pyIter (.ref d)) Q E s:=by
 refine wpAny_pyIter_slot hT F.slot_dict_iter (wpAny_call_entry F.slot_dict_iter hT F.entry_dict_iter (wpAny_bind (wpAny_bind (wpAny_notOrdered_dict hT (wpAny_pure ?_)))) (F.args_dict_iter_1 _))
 show wpAny _ _ (Builtin.Dict.showsAll d>>=_) _ _ _
 unfold Builtin.Dict.showsAll
 rw[if_neg (by rw[hd];decide)]
 refine wpAny_bind (wpAny_pure (wpAny_bind (wpAny_dictEntries ho hdat (wpAny_bind (wpAny_dictEpoch ho hdat (wpAny_bind (wpAny_newObj_type (wpAny_pure ⟨_,rfl, "dict_keyiterator",_,⟨_,Heap.get?_push_size _ rfl,rfl⟩,F.slot_dict_keyiterator_next.lookup,hQ⟩) (by show 4<=sizeLine+2;decide))))))))
section
variable {P:Program}{w:World}{A:Around}{E:Value->Shared->Prop}{s:Shared}{d:Addr}{od:Obj}{es:Array DictEntry}{ep:Nat}
theorem c1v {I:Addr}(hh:A.handled=none)(hne:d≠I)(hdd:od.data = .dict es ep) :
  Walks P w A I [I,d] [I] es.size (fun i v=>(es[i]?).map (·.key)=some v) (fun i h=>KIt h I d i es.size ep/\h.get? d=some od) where
 sub:=fun b hb=>by simp at hb;simp[hb]
 frame:=fun _ _ _ st hk=>⟨hk I (by simp) _ st.1,hk d (by simp) _ st.2⟩
 item:=fun i s Q E hi st hQ=>by
  have gv:es[i]? = some es[i]:=Array.getElem?_eq_getElem hi
  refine w0r st.1 st.2 hdd gv fun h' g sb=>?_
  exact hQ _ h' s.toks (by rw[gv];rfl) ⟨g,(sb.2 d hne).trans st.2⟩ fun b o hb q=>(sb.2 b (fun z=>hb (by simp[z]))).trans q
 done:=fun s Q E st hQ=>by
  refine m0v hh st.1 st.2 hdd (Array.getElem?_eq_none (Nat.le_refl _)) fun h' kp=>?_
  exact hQ h' s.toks fun b o hb q=>kp b o (fun z=>hb (by simp[z])) q
 self:=fun _ _ _ _ st hQ=>wpAny_pyIter_keyiter st.1.ki hQ
theorem g1m (hd:(d==sysModules)=false)(hx:od.cls = .type "dict")(hdd:od.data = .dict es ep):PySem.W.KdlSrc P w "dict" d d es.size (fun i v=>(es[i]?).map (·.key)=some v) (fun h=>h.get? d=some od) where
 type:=fun s ok=>⟨_,ok,hx⟩
 there:=fun h ok=>⟨Heap.lt_size ok,Heap.lt_size ok⟩
 keep:=fun h h' ok k=>k d (.inl rfl) _ ok
 notList:=by decide
 notTuple:=by decide
 hint:=fun A E s Q ok q=>PySem.W.kdl_hint_dict ⟨_,ok,hx⟩ q
 iter:=fun A s hh ok=>by
  refine⟨{cls:=.type "dict_keyiterator",data:=.fields #[.ref d,.int (0:Nat) 0,.int (es.size:Nat) 0,.int (ep:Nat) 0]},_,fun E Q q=>x0b hd ⟨_,ok,hx⟩ ok hdd q,c1v hh (Nat.ne_of_lt (Heap.lt_size ok)) hdd,Heap.get?_push_size _ rfl,Heap.get?_push_of_some _ ok⟩
theorem u0r {R:List Value->Shared->Prop}(hh:A.handled=none)(hd:(d==sysModules)=false)(hx:od.cls = .type "dict")(hdd:od.data = .dict es ep)(ho:s.heap.get? d=some od)(hz:es.size<=sizeLine)
  (h:∀h' tk,(∀b o,s.heap.get? b=some o->h'.get? b=some o)->s.heap.objs.size<=h'.objs.size->R (es.toList.map (·.key)) {s with heap:=h',toks:=tk}):wpAny (model P w) A (collect (.ref d)) R E s:=by
 have lS:=Heap.lt_size ho
 unfold collect
 refine wpAny_bind (wpAny_runValue (codeAny_builtin entry_proto_collect' ?_))
 rw[Around.under_plainId PySem.F.plain_proto_collect _]
 refine(show wpAny _ A.in1 (newList []>>=fun l=>again (.builtin "list.__iadd__" ⟨[l,.ref d],[]⟩)) _ _ s from wpAny_bind (wpAny_newObj_type (wpAny_pure ⟨plainId_quiet PySem.F.plain_list_iadd _,codeAny_builtin entry_list_iadd' ?_⟩)))
 rw[Around.under_plainId PySem.F.plain_list_iadd _]
 have gL:(s.heap.push {cls:=.type "list",data:=.seq ([]:List Value).toArray}).get? s.heap.objs.size=some {cls:=.type "list",data:=.seq #[]}:=Heap.get?_push_size _ rfl
 show wpAny _ A.in1 (Builtin.List.listExtendWith (.ref s.heap.objs.size) (.ref d) (.ref s.heap.objs.size)) _ _ _
 have key:=PySem.W.kdl_extend (A:=A) (s:={s with heap:=s.heap.push {cls:=.type "list",data:=.seq ([]:List Value).toArray}}) (g1m (P:=P) (w:=w) hd hx hdd)
  (R:=fun(q:Result) (z:Shared)=>∃(h':Heap) (tk:Nat) (acc:Array Value) (c':Nat),q = .ok (.ret (.ref s.heap.objs.size))/\z={s with heap:=h',toks:=tk}/\(∀b o,s.heap.get? b=some o->h'.get? b=some o)/\h'.get? s.heap.objs.size=some {cls:=.type "list",dict:=none,data:=.seq acc c',slots:=#[]}/\ItemsOf (fun i v=>(es[i]?).map (·.key)=some v) acc es.size)
  hh (Heap.get?_push_of_some _ ho) s.heap.objs.size (Nat.ne_of_gt lS) (Nat.ne_of_gt lS) (.ref s.heap.objs.size) 0 gL
  (fun h' tk acc c' k1 g a1=>⟨h',tk,acc,c',rfl,rfl,fun b o e=>k1 b o (Nat.ne_of_lt (Heap.lt_size e)) (Heap.get?_push_of_some _ e),g,a1⟩) hz
 have eqA:∀acc:Array Value,ItemsOf (fun i v=>(es[i]?).map (·.key)=some v) acc es.size->acc.toList=es.toList.map (·.key):=fun acc ha=>by
  refine List.ext_getElem? fun j=>?_
  rw[Array.getElem?_toList,List.getElem?_map,Array.getElem?_toList]
  by_cases hj:j<acc.size
  ·have g:acc[j]? = some acc[j]:=Array.getElem?_eq_getElem hj
   rw[g];exact(ha.2 j _ g).symm
  ·have l2:=ha.1
   rw[Array.getElem?_eq_none (by omega),Array.getElem?_eq_none (by omega)];rfl
 refine wpAny_mono key (fun fin z x=>?_) fun e z x=>?_
 ·cases fin with
  | done f =>
   obtain⟨h',tk,acc,c',e,rfl,k1,g,a1⟩:=x
   cases e
   exact(show wpAny _ A (load s.heap.objs.size>>=_) _ _ _ from wpAny_bind (wpAny_load g (wpAny_pure (by rw[eqA acc a1];exact h h' tk k1 (Nat.le_of_lt (Heap.lt_size g))))))
  | again c1 =>
   refine⟨x.1,codeAny_mono x.2 fun q z2 y=>?_⟩
   obtain⟨h',tk,acc,c',rfl,rfl,k1,g,a1⟩:=y
   exact(show wpAny _ A (load s.heap.objs.size>>=_) _ _ _ from wpAny_bind (wpAny_load g (wpAny_pure (by rw[eqA acc a1];exact h h' tk k1 (Nat.le_of_lt (Heap.lt_size g))))))
 ·obtain⟨_,_,_,_,e',_⟩:=x
  cases e'
variable {κ:SortKind}{r:Keyed->Int}{Pk:Keyed->Prop}
theorem v0u {Q:Value->Shared->Prop}(hh:A.handled=none)(hd:(d==sysModules)=false)(hx:od.cls = .type "dict")(hdd:od.data = .dict es ep)(ho:s.heap.get? d=some od)(hz:es.size<=16777216)
  (hP:∀v∈es.toList.map (·.key),Pk (v,v))
  (hk:∀(h':Heap) tk,(∀b o,s.heap.get? b=some o->h'.get? b=some o)->∀Q:SortKind->Shared->Prop,Q κ {s with heap:=h',toks:=tk}->2<=es.size->wpAny (model P w) A.in1.in1 (keyKind' (es.toList.map (·.key)).toArray) Q E {s with heap:=h',toks:=tk})
  (hC:∀(h':Heap) tk,(∀b o,s.heap.get? b=some o->h'.get? b=some o)->Cm (model P w) A.in1.in1 E {s with heap:=h',toks:=tk} κ r Pk)
  (h:∀h' tk D e (ks:List Keyed),(∀b o,s.heap.get? b=some o->h'.get? b=some o)->s.heap.objs.size<=D->h'.get? D=some (seqObj "list" (ks.map (·.2)).toArray e)->ks.Perm ((es.toList.map (·.key)).map fun v=>(v,v))->Srt r ks->Q (.ref D) {s with heap:=h',toks:=tk}) :
  wpAny (model P w) A (call (.builtin "sorted") [.ref d]) Q E s:=by
 refine Calls.call_function_entry kind_sorted plain_sorted entry_sorted (args_sorted1 _) ?_
 unfold Builtin.«sorted»
 have hn:(es.toList.map (·.key)).length=es.size:=by simp
 refine wpAny_bind (m:=checkCount "sorted" 1 1 _) (wpAny_pure (wpAny_bind (u0r (A:=A.in1) hh hd hx hdd ho (by rw[sizeLine_eq];exact hz) fun h' tk k1 sz=>?_)))
 generalize es.toList.map (·.key)=vs at hP hk h hn ⊢
 refine wpAny_bind (wpAny_newList ?_ (by rw[sizeLine_eq,hn];exact hz))
 have gD:(h'.push (seqObj "list" vs.toArray 0)).get? h'.objs.size=some (seqObj "list" vs.toArray 0):=Heap.get?_push_size _ rfl
 have kp:∀b o,s.heap.get? b=some o->b≠h'.objs.size/\(h'.push (seqObj "list" vs.toArray 0)).get? b=some o:=fun b o q=>⟨Nat.ne_of_lt (Heap.lt_size (k1 b o q)),Heap.get?_push_of_some _ (k1 b o q)⟩
 refine wpAny_bind (wpAny_holding (wpAny_call_entry slot_list_sort ⟨_,gD,rfl⟩ entry_list_sort (z0j (s:={s with heap:=h'.push (seqObj "list" vs.toArray 0),toks:=tk}) (κ:=κ) (r:=r) (P:=Pk) gD (by omega) hP (fun h2 q Q z g=>hk h2 tk (fun b o e=>q b o (kp b o e).1 (kp b o e).2) Q z (by omega)) (fun h2 q=>hC h2 tk fun b o e=>q b o (kp b o e).1 (kp b o e).2) fun ks k2 k3=>⟨_,rfl,?_⟩) (args_list_sort _)))
 obtain⟨e,ge⟩:=sortedHeap_at (out:=(ks.map (·.2)).toArray) gD
 refine wpAny_pure ⟨_,rfl,h _ tk h'.objs.size e ks (fun b o q=>?_) sz ge k2 k3⟩
 have lb:=Heap.lt_size (k1 b o q)
 rw[sortedHeap_old (Nat.ne_of_lt lb) (by rw[size_push'];exact Nat.lt_succ_of_lt lb)]
 exact Heap.get?_push_of_some _ (k1 b o q)
end
def PrAt (h:Heap)(a:Addr)(p:Nat×Nat):Prop:=∃t u,IsTup h a #[.int (p.1:Nat) t,.int (p.2:Nat) u]
theorem PrAt.kept {h h':Heap}{a:Addr}{p:Nat×Nat}(x:PrAt h a p)(k:∀b o,h.get? b=some o->h'.get? b=some o):PrAt h' a p:=by
 obtain⟨t,u,o,e,r⟩:=x
 exact⟨t,u,o,k _ _ e,r⟩
theorem PrAt.uniq {h:Heap}{a:Addr}{p q:Nat×Nat}(x:PrAt h a p)(y:PrAt h a q):p=q:=by
 obtain⟨t,u,o,e,_,n,d⟩:=x
 obtain⟨t',u',o',e',_,n',d'⟩:=y
 rw[e]at e'
 cases e'
 rw[d]at d'
 injection d' with d1 d2
 have h0:=congrArg (fun z:Array Value=>z[0]?) d1
 have h1:=congrArg (fun z:Array Value=>z[1]?) d1
 simp at h0 h1
 exact Prod.ext (by omega) (by omega)
def rkP (p:Nat×Nat):Int:=(p.1:Int)*1048576+(p.2:Int)
open Classical in
noncomputable def prOf (h:Heap)(v:Value):Nat×Nat:=match v with
 | .ref a=>if x:∃p,PrAt h a p then x.choose else(0,0)
 | _=>(0,0)
theorem j0s {h:Heap}{a:Addr}{p:Nat×Nat}(x:PrAt h a p):prOf h (.ref a)=p:=by
 unfold prOf
 have e:∃p,PrAt h a p:=⟨p,x⟩
 dsimp only
 rw[dif_pos e]
 exact e.choose_spec.uniq x
section
variable {prog:Program}{w:World}{A:Around}{E:Value->Shared->Prop}{s:Shared}
theorem u0d (b:Bool)(x y:Value):keyLt' (tuples' b) x y=(do
  let xs <- Builtin.List.listItems x;let ys <- Builtin.List.listItems y
  for ((p,q),i) in (xs.toList.zip ys.toList).zipIdx do
   if !(<- eqBool p q)then return <- oneLt' (b&&i==0) p q
  return xs.size<ys.size):=rfl
theorem l0p {a b:Int}{t u:Tok}{o:Bool}{Q:Bool->Shared->Prop}(h:Q (decide (a<b)) s):wpAny (model prog w) A (oneLt' o (.int a t) (.int b u)) Q E s:=by
 cases o with
 | true=>exact oneLt_int h
 | false =>
  rw[oneLt'_eq]
  simp only[Bool.false_eq_true,if_false]
  refine wpAny_bind (wpAny_richCompare_same (op:=.Lt) (typeIs_int s a t) (typeIs_int s b u) slot_int_lt (call_int_lt ⟨(fun x=>nomatch x),?_⟩))
  exact wpAny_truthy_bool h
theorem u0c {a b:Addr}{p q:Nat×Nat}{o:Bool}{Q:Bool->Shared->Prop}(x:PrAt s.heap a p)(y:PrAt s.heap b q)(h:Q (decide (p.1<q.1∨(p.1=q.1/\p.2<q.2))) s):wpAny (model prog w) A (keyLt' (tuples' o) (.ref a) (.ref b)) Q E s:=by
 obtain⟨t,u,ob,e,_,n,d⟩:=x
 obtain⟨t',u',ob',e',_,n',d'⟩:=y
 rw[u0d]
 refine wpAny_bind (listItems_at e d (wpAny_bind (listItems_at e' d' ?_)))
 simp only[List.toList_toArray,List.zip_cons_cons,List.zip_nil_left,List.zipIdx_cons,List.zipIdx_nil,List.forIn_cons,List.forIn_nil]
 refine wpAny_bind (wpAny_bind (wpAny_bind (wpAny_eqBool_int ?_)))
 by_cases g:p.1=q.1
 ·have e1:(((p.1:Nat):Int)==((q.1:Nat):Int))=true:=by simp[g]
  rw[e1]
  simp only[Bool.not_true,Bool.false_eq_true,if_false]
  refine wpAny_pure ?_
  refine wpAny_bind (wpAny_bind (wpAny_eqBool_int ?_))
  by_cases g2:p.2=q.2
  ·have e2:(((p.2:Nat):Int)==((q.2:Nat):Int))=true:=by simp[g2]
   rw[e2]
   simp only[Bool.not_true,Bool.false_eq_true,if_false]
   refine wpAny_pure (wpAny_pure (wpAny_pure ?_))
   have e3:decide (p.1<q.1∨(p.1=q.1/\p.2<q.2))=false:=by simp;omega
   rw[e3]at h
   simpa using h
  ·have e2:(((p.2:Nat):Int)==((q.2:Nat):Int))=false:=by simp;omega
   rw[e2]
   simp only[Bool.not_false,if_true]
   refine wpAny_bind (l0p ?_)
   refine wpAny_pure (wpAny_pure ?_)
   have e3:decide (p.1<q.1∨(p.1=q.1/\p.2<q.2))=decide (((p.2:Nat):Int)<((q.2:Nat):Int)):=by rw[decide_eq_decide];omega
   rw[e3]at h
   exact wpAny_pure h
 ·have e1:(((p.1:Nat):Int)==((q.1:Nat):Int))=false:=by simp;omega
  rw[e1]
  simp only[Bool.not_false,if_true]
  refine wpAny_bind (l0p ?_)
  refine wpAny_pure (wpAny_pure ?_)
  have e3:decide (p.1<q.1∨(p.1=q.1/\p.2<q.2))=decide (((p.1:Nat):Int)<((q.1:Nat):Int)):=by rw[decide_eq_decide];omega
  rw[e3]at h
  exact wpAny_pure h
theorem e1x {h0:Heap}(k:∀b o,h0.get? b=some o->s.heap.get? b=some o){o:Bool}:Cm (model prog w) A E s (tuples' o) (fun z=>rkP (prOf h0 z.1)) (fun z=>∃a p,z.1 = .ref a/\PrAt h0 a p/\p.2<1048576):=by
 refine⟨fun x y hx hy st Q e h=>?_⟩
 obtain⟨a,p,ea,pa,lp⟩:=hx
 obtain⟨b,q,eb,pb,lq⟩:=hy
 rw[ea,eb,j0s pa,j0s pb]at h
 refine f1o (κ:=tuples' o) (b:=decide (p.1<q.1∨(p.1=q.1/\p.2<q.2))) (fun E' Q q'=>?_) e ?_
 ·rw[ea,eb]
  exact u0c (pa.kept k) (pb.kept k) q'
 ·have e3:decide (p.1<q.1∨(p.1=q.1/\p.2<q.2))=decide (rkP p<rkP q):=by
   rw[decide_eq_decide]
   unfold rkP
   omega
  rw[e3];exact h
theorem u0o {a:Addr}{p:Nat×Nat}{Q:Option Value->Shared->Prop}(x:PrAt s.heap a p)(h:∀t,Q (some (.int (p.1:Nat) t)) s):wpAny (model prog w) A (firstOfTuple' (.ref a)) Q E s:=by
 obtain⟨t,u,ob,e,c,n,d⟩:=x
 show wpAny (model prog w) A (do
  if(<- typeOf (.ref a)) != .type "tuple" then return none
  return (<- Builtin.List.listItems (.ref a))[0]?) Q E s
 refine wpAny_bind (wpAny_typeOf (T := "tuple") ⟨_,e,c⟩ ?_)
 simp only[bne_self_eq_false,Bool.false_eq_true,if_false]
 exact wpAny_bind (listItems_at e d (wpAny_pure (h t)))
theorem k0j:∀ {vs:List Value} {Q:List (Option Value)->Shared->Prop},(∀v∈vs,∃a p,v = .ref a/\PrAt s.heap a p)->(∀os:List (Option Value),os.length=vs.length->(∀o∈os,∃n t,o=some (Value.int n t))->Q os s)->wpAny (model prog w) A (vs.mapM firstOfTuple') Q E s
 | [],Q,_,h=>by rw[List.mapM_nil];exact wpAny_pure (h [] rfl (fun _ z=>nomatch z))
 | v::vs,Q,hv,h=>by
  obtain⟨a,p,rfl,pa⟩:=hv v (List.mem_cons_self ..)
  rw[List.mapM_cons]
  refine wpAny_bind (u0o pa fun t=>wpAny_bind (k0j (fun v' hv'=>hv v' (List.mem_cons_of_mem _ hv')) fun os l ho=>wpAny_pure (h _ (by simp[l]) fun o ho'=>?_)))
  rcases List.mem_cons.mp ho' with rfl | z
  ·exact⟨_,t,rfl⟩
  ·exact ho o z
theorem p0a {vs:List Value}{Q:SortKind->Shared->Prop}(hv:∀v∈vs,∃a p,v = .ref a/\PrAt s.heap a p)(h2:1<=vs.length)(h:Q (tuples' true) s):wpAny (model prog w) A (keyKind' vs.toArray) Q E s:=by
 rw[keyKind'_eq,List.mapM_toArray]
 refine wpAny_bind (wpAny_bind (k0j hv fun os l ho=>wpAny_pure ?_))
 have all:os.toArray.all (·.isSome)=true:=by
  rw[List.all_toArray,List.all_eq_true]
  intro o z
  obtain⟨n,t,rfl⟩:=ho o z
  rfl
 rw[if_pos all]
 refine wpAny_bind (wpAny_rule ?_)
 obtain⟨is,hi⟩:∃is:List Int,IntsAre (os.filterMap id) is/\(os.filterMap id).length=os.length:=by
  clear all l h h2 hv
  induction os with
  | nil=>exact⟨[],.nil,rfl⟩
  | cons o os ih =>
   obtain⟨n,t,rfl⟩:=ho o (List.mem_cons_self ..)
   obtain⟨is,h1,h2⟩:=ih fun o' z=>ho o' (List.mem_cons_of_mem _ z)
   exact⟨n::is,.cons n t h1,by simp at h2 ⊢;omega⟩
 have ef:os.toArray.filterMap id=(os.filterMap id).toArray:=by
  apply Array.toList_inj.mp;simp
 rw[ef,oneTypeOnly'_eq,List.mapM_toArray,mapM_typeOf_ints hi.1]
 simp only[map_pure,pure_bind]
 generalize os.filterMap id=fs at hi
 obtain⟨f,fs,rfl⟩:∃f fs',fs=f::fs':=by
  cases fs with
  | nil=>simp at hi;omega
  | cons f fs=>exact⟨f,fs,rfl⟩
 have hall:((List.map (fun _=>Value.type "int") (f::fs)).toArray.all fun x=>x==Value.type "int")=true:=by
  simp only[List.all_toArray,List.all_map,List.all_eq_true]
  intro _ _
  rfl
 have h0:(List.map (fun _=>Value.type "int") (f::fs)).toArray[0]? = some (Value.type "int"):=by simp
 rw[h0]
 simp only[hall,if_true,pure_bind]
 exact wpAny_pure h
end
def m0z (p:Nat×Nat):List Key:=[.inl ((p.1:Nat):Int),.inl ((p.2:Nat):Int)]
def leP (p q:Nat×Nat):Prop:=p.1<q.1∨(p.1=q.1/\p.2<=q.2)
def b1n (td:TE):TE:=fun σ H Q=>td σ H fun x H1=>∃a kvs,∃ps:List (Nat×Nat),x = .ref a/\H1 a=some (.dT kvs)/\kvs.map Prod.fst=ps.map m0z/\ps.length<10000/\(∀p∈ps,p.2<1048576) /\
 ∀l (bs:List Addr) (ps':List (Nat×Nat)),H1 l=none->ps'.Perm ps->ps'.Pairwise leP->bs.length=ps'.length->(∀(i:Nat) (b:Addr) (p:Nat×Nat),bs[i]? = some b->ps'[i]? = some p->H1 b=some (.tup ((m0z p).map kV)))->Q (.ref l) (upd H1 l (.lst (bs.map V.ref)))
theorem m0o {X:Cx}{pins:List (Addr×Obj)}{σ:St}{H:Hp}{s:Shared}(I:Inv X pins σ H s){b:Addr}{p:Nat×Nat}(hb:H b=some (.tup ((m0z p).map kV))):PrAt s.heap b p:=by
 obtain⟨_,its,vs,o,e,c,n,d⟩:=(show c0s X.prog X.w H s.heap b (.tup ((m0z p).map kV))from I.hok b _ hb)
 obtain⟨u1,u2,rfl,r1,r2⟩:=c1w vs
 obtain⟨t1,rfl⟩:∃t,u1 = .int (p.1:Nat) t:=r1
 obtain⟨t2,rfl⟩:∃t,u2 = .int (p.2:Nat) t:=r2
 exact⟨t1,t2,o,e,c,n,d⟩
theorem z0t {X:Cx}{o:Expr}{td:TE}{p pos:Pos}(hc:X.calm=true)(hg:Gl X "sorted")(hm:X.mg "sorted" = none)(ho:PE X o td)
  (hs:starEach [o] X.env=[(false,eval o X.env)]:=by rfl) (hpl:(backTo pos (starEach [] X.env)).any (·.1)=false:=by rfl):PE X (.Call (.Name "sorted" p) [o] [] pos) (b1n td):=by
 intro pins s σ H Q I h
 refine Call_ (l0r I hg hm y0k ?_)
 refine PyProof.Rows.callWith_builtin1 ?_ (by rw[hs];rfl) hpl
 rw[hs]
 show wpAny _ _ (spliced [(false,eval o X.env)]) _ _ s
 refine Calls.spliced_cons (thn (ho pins s σ H _ I h) fun v s1 ⟨x,H1,I1,r1,a,kvs,ps,ex,ha,ek,hl,hb,q1⟩=>?_)
 subst ex
 obtain rfl:v=Value.ref a:=r1
 refine Calls.spliced_nil ?_
 obtain⟨z,hd,xs,kt,ob,es,ep,eo,hx,hdat,hes,hnd⟩:=(show c0s X.prog X.w H1 s1.heap a (.dT kvs)from I1.hok a _ ha)
 have hlx:xs.length=ps.length:=by rw[<- s0p kt];have:=congrArg List.length ek;simpa using this
 have hle:es.size=ps.length:=by rw[<- Array.length_toList,hes,List.length_map,hlx]
 have at':∀i b,(xs.map (·.2.1))[i]? = some b->∃p,ps[i]? = some p/\H1 b=some (.tup ((m0z p).map kV)):=fun i b hi=>by
  rw[List.getElem?_map]at hi
  obtain⟨⟨kk,b',u⟩,hxi,rfl⟩:=Option.map_eq_some_iff.mp hi
  have li:=(List.getElem?_eq_some_iff.mp hxi).1
  have e1:kvs[i]? = some (kvs[i]'(by rw[s0p kt];exact li)):=List.getElem?_eq_getElem _
  generalize kvs[i]'(by rw[s0p kt];exact li)=kv at e1
  obtain⟨k0,y0⟩:=kv
  obtain⟨b2,u2,h1,h2,_⟩:=c1c kt e1
  rw[hxi]at h1
  cases h1
  have e2:ps[i]? = some (ps[i]'(by omega)):=List.getElem?_eq_getElem _
  refine⟨_,e2,?_⟩
  have:=congrArg (fun l=>l[i]?) ek
  simp only[List.getElem?_map,e1,e2,Option.map_some,Option.some.injEq]at this
  rw[<- this];exact h2
 have ekk:es.toList.map (·.key)=(xs.map (·.2.1)).map Value.ref:=by rw[hes,List.map_map,List.map_map];rfl
 have hv:∀v∈es.toList.map (·.key),∃b p,v = .ref b/\PrAt s1.heap b p/\p.2<1048576:=fun v hv=>by
  rw[ekk]at hv
  obtain⟨b,hb',rfl⟩:=List.mem_map.mp hv
  obtain⟨i,hi,e⟩:=List.getElem_of_mem hb'
  obtain⟨p,e1,e2⟩:=at' i b (by rw[List.getElem?_eq_getElem hi,e])
  exact⟨b,p,rfl,m0o I1 e2,hb p (List.mem_of_getElem? e1)⟩
 refine v0u (κ:=tuples' true) (r:=fun z=>rkP (prOf s1.heap z.1)) (Pk:=fun z=>∃a p,z.1 = .ref a/\PrAt s1.heap a p/\p.2<1048576) (I1.ok.hd hc) hd hx.1 hdat eo (by omega) hv (fun h' tk kp Q q g=>?_) (fun h' tk kp=>e1x (s:={s1 with heap:=h',toks:=tk}) kp) fun h' tk D e ks kp sz gD k2 k3=>?_
 ·refine p0a (s:={s1 with heap:=h',toks:=tk}) (fun v hv'=>?_) (by simp;omega) q
  obtain⟨b,p,e1,e2,_⟩:=hv v hv'
  exact⟨b,p,e1,e2.kept kp⟩
 ·have k4:∀k∈ks,k.1=k.2/\k.2∈(xs.map (·.2.1)).map Value.ref:=fun k hk=>by
   obtain⟨v,h1,h2⟩:=List.mem_map.mp (k2.mem_iff.mp hk)
   subst h2;exact⟨rfl,by rw[<- ekk];exact h1⟩
  have pm:(ks.map (·.2)).Perm ((xs.map (·.2.1)).map Value.ref):=by
   rw[<- ekk]
   have:=k2.map (·.2)
   rw[List.map_map]at this
   exact this.trans (List.Perm.of_eq (List.map_id' _))
  obtain⟨bs,ebs⟩:∃bs:List Addr,ks.map (·.2)=bs.map Value.ref:=by
   clear k2 k3 gD pm
   induction ks with
   | nil=>exact⟨[],rfl⟩
   | cons k ks ih =>
    obtain⟨bs,e⟩:=ih fun k' z=>k4 k' (List.mem_cons_of_mem _ z)
    obtain⟨b,_,e2⟩:=List.mem_map.mp (k4 k (List.mem_cons_self ..)).2
    exact⟨b::bs,by rw[List.map_cons,List.map_cons,e,e2]⟩
  rw[ebs]at pm
  have gv:∀b∈xs.map (·.2.1),H1 b=some (.tup ((m0z (prOf s1.heap (.ref b))).map kV))/\PrAt s1.heap b (prOf s1.heap (.ref b)):=fun b hb'=>by
   obtain⟨i,hi,e⟩:=List.getElem_of_mem hb'
   obtain⟨p,e1,e2⟩:=at' i b (by rw[List.getElem?_eq_getElem hi,e])
   rw[j0s (m0o I1 e2)]
   exact⟨e2,m0o I1 e2⟩
  have pmb:bs.Perm (xs.map (·.2.1)):=by
   have inj:∀ {l1 l2:List Addr},(l1.map Value.ref).Perm (l2.map Value.ref)->l1.Perm l2:=fun{l1 l2} q=>by
    have:=q.map (fun v=>match v with | Value.ref a=>a | _=>0)
    rw[List.map_map,List.map_map]at this
    exact((List.Perm.of_eq (List.map_id _).symm).trans this).trans (List.Perm.of_eq (List.map_id _))
   exact inj pm
  have eps:(xs.map (·.2.1)).map (fun b=>prOf s1.heap (.ref b))=ps:=by
   refine List.ext_getElem? fun i=>?_
   rw[List.getElem?_map]
   cases hi:(xs.map (·.2.1))[i]? with
   | none =>
    have:=List.getElem?_eq_none_iff.mp hi
    rw[List.length_map]at this
    rw[List.getElem?_eq_none (by omega)];rfl
   | some b =>
    obtain⟨p,e1,e2⟩:=at' i b hi
    rw[e1,Option.map_some,j0s (m0o I1 e2)]
  have hlen:bs.length=ps.length:=by rw[pmb.length_eq,List.length_map,hlx]
  have I2:Inv X pins σ H1 {s1 with heap:=h',toks:=tk}:=I1.kept (t':=tk) kp
  rw[ebs]at gD
  refine⟨.ref D,_,I1.laid (t':=tk) (o:=.lst (bs.map V.ref)) kp sz ⟨?_,bs.map Value.ref,e,?_,by rw[gD]⟩,rfl,q1 D bs (bs.map fun b=>prOf s1.heap (.ref b)) (I1.hok.fresh sz) ?_ ?_ (by simp) ?_⟩
  ·rw[List.length_map];exact Nat.le_trans (show bs.length<=16777216 by omega) (Nat.le_of_eq sizeLine_eq.symm)
  ·clear gD ebs pm pmb hlen
   induction bs with
   | nil=>exact .nil
   | cons b bs ih=>exact .cons rfl ih
  ·have:=pmb.map fun b=>prOf s1.heap (.ref b)
   rw[eps]at this;exact this
  ·have k5:(ks.map fun z=>prOf s1.heap z.2).Pairwise leP:=by
    refine List.pairwise_map.mpr (List.Pairwise.imp_of_mem (fun{x y} hx' hy' q=>?_) k3)
    dsimp only at q
    rw[(k4 x hx').1,(k4 y hy').1]at q
    have bd:∀k∈ks,(prOf s1.heap k.2).2<1048576:=fun k hk=>by
     obtain⟨b,p,e1,e2,e3⟩:=hv k.2 (by rw[ekk];exact(k4 k hk).2)
     rw[e1,j0s e2];exact e3
    have b1:=bd x hx'
    have b2:=bd y hy'
    unfold rkP at q
    unfold leP
    omega
   have e5:(ks.map fun z=>prOf s1.heap z.2)=bs.map fun b=>prOf s1.heap (.ref b):=by
    have:=congrArg (List.map (prOf s1.heap)) ebs
    rw[List.map_map,List.map_map]at this
    exact this
   rw[e5]at k5;exact k5
  ·intro i b p h1 h2
   rw[List.getElem?_map,h1]at h2
   cases h2
   exact(gv b (pmb.mem_iff.mp (List.mem_of_getElem? h1))).1
section
variable {K:PySem.W.Frag}{td:TE}{ad:AE}
def pP (p:Nat×Nat):D:=.tup [nD p.1,nD p.2]
def i1r (a:AE):AE:=fun ρ q=>a ρ fun r ρ1=>match r with
 | .o j=>(match gt ρ1 j with
  | .dt kvs=>∃ps:List (Nat×Nat),kvs.map Prod.fst=ps.map m0z/\ps.length<10000/\(∀p∈ps,p.2<1048576)/\∀ps':List (Nat×Nat),ps'.Perm ps->ps'.Pairwise leP->q (.f (ps'.map pP)) ρ1
  | _=>False)
 | _=>False
theorem v0d (ha:TEok K td ad):TEok K (b1n td) (i1r ad):=by
 intro F σ ρ H q Q r h k
 refine ha F σ ρ H _ _ r h fun r1 ρ1 x H1 h1 o1=>?_
 obtain⟨r1',k1,i1⟩:=o1.inF
 split at h1
 ·rename_i j
  have ej:σ[j]? = some (some x):=i1
  split at h1
  ·rename_i kvs hg
   obtain⟨t,ks,rfl,ht,e1,e2⟩:=r0k r1' ej hg
   obtain⟨ps,c1,c2,c3,c4⟩:=h1
   refine⟨t,ks,ps,rfl,ht,e1.trans c1,c2,c3,fun l bs ps' hl p1 p2 p3 p4=>?_⟩
   refine k (.n (.ow (ps'.map pP))) ρ1 _ _ (c4 ps' p1 p2) ⟨H1,l,_,r1',k1,rfl,⟨l,_,rfl,a0y,?_⟩,hl,rfl,rfl⟩
   have all:∀(bs:List Addr) (ps':List (Nat×Nat)),bs.length=ps'.length->(∀(i:Nat) (b:Addr) (p:Nat×Nat),bs[i]? = some b->ps'[i]? = some p->H1 b=some (.tup ((m0z p).map kV)))->RepDs K (hid H1 (hs F σ ρ1)) (bs.map V.ref) (ps'.map pP):=by
    intro bs
    induction bs with
    | nil =>
     intro ps' l1 _
     cases ps' with
     | nil=>exact .nil
     | cons=>simp at l1
    | cons b bs ih =>
     intro ps' l1 l2
     cases ps' with
     | nil=>simp at l1
     | cons p ps' =>
      have hb:=l2 0 b p rfl rfl
      refine .cons ?_ (ih ps' (by simpa using l1) fun i b' p' h1 h2=>l2 (i+1) b' p' (by simpa using h1) (by simpa using h2))
      have nb:¬hs F σ ρ1 b:=fun z=>(x0g r1' z).2 _ hb
      unfold pP RepD
      exact⟨b,_,rfl,f0e nb hb,r0h (m0z p)⟩
   exact all bs ps' p3 p4
  ·exact h1.elim
 ·exact h1.elim
end
end L2
namespace L2
open PySem PySem.Spec PyProof.Rows PySem.W
end L2
namespace K51
open PySem PySem.Spec PyProof.Rows L2
def top (i:Nat):Stmt:=PySem.Challenge.pw_fewjoins_k51_the_way_by_common_pairs.main.body.getD i (.Pass ⟨0,0,0,0⟩)
abbrev e0n:Stmt:=top 14
abbrev i0q:List Str:=["row"]
theorem o0e:b0l i0q ["row"] (a0i e0n):=⟨rfl,rfl,rfl,by decide +kernel,rfl,by decide +kernel,by decide +kernel⟩
abbrev c0u:Stmt:=top 17
abbrev k0c:List Str:=["count"]
theorem g0a:b0l k0c ["count"] (a0i c0u):=⟨rfl,rfl,rfl,by decide +kernel,rfl,by decide +kernel,by decide +kernel⟩
abbrev b0n:Stmt:=top 19
abbrev c0d:List Str:=["wish", "many", "rows", "joins", "held", "pair"]
theorem a0z:b0l c0d ["wish"] (a0i b0n):=⟨rfl,rfl,rfl,by decide +kernel,rfl,by decide +kernel,by decide +kernel⟩
abbrev e0o:Stmt:=top 20
abbrev i0r:List Str:=["held", "counts", "things", "pair", "least"]
theorem d0c:b0l i0r ["held"] (a0i e0o):=⟨rfl,rfl,rfl,by decide +kernel,rfl,by decide +kernel,by decide +kernel⟩
abbrev e0z:Stmt:=top 21
abbrev k0d:List Str:=["things"]
theorem q0i:b0l k0d ["things"] (a0i e0z):=⟨rfl,rfl,rfl,by decide +kernel,rfl,by decide +kernel,by decide +kernel⟩
abbrev e0m:Stmt:=top 22
abbrev i0p:List Str:=["things", "pair", "new"]
theorem o0c:b0l i0p ["things", "pair", "new"] (a0i e0m):=⟨rfl,rfl,rfl,by decide +kernel,rfl,by decide +kernel,by decide +kernel⟩
abbrev g0r:Stmt:=top 24
abbrev r0a:List Str:=["_law_script"]
theorem q0j:b0l r0a ["_law_script"] (a0i g0r):=⟨rfl,rfl,rfl,by decide +kernel,rfl,by decide +kernel,by decide +kernel⟩
abbrev g0s:Stmt:=top 25
abbrev r0b:List Str:=["_law_tape_here", "_law_many", "_law_found", "_law_spot", "_law_cells", "_law_cell", "_law_seed"]
theorem d0b:b0l r0b ["_law_tape_here", "_law_many"] (a0i g0s):=⟨rfl,rfl,rfl,by decide +kernel,rfl,by decide +kernel,by decide +kernel⟩
abbrev f0m:Stmt:=top 26
abbrev o0u:List Str:=["_law_found"]
theorem o0d:b0l o0u ["_law_found"] (a0i f0m):=⟨rfl,rfl,rfl,by decide +kernel,rfl,by decide +kernel,by decide +kernel⟩
abbrev d0f:Stmt:=top 27
abbrev i0u:List Str:=["_law_tape_here", "_law_many", "_law_most", "_law_rows", "_law_turn", "_law_way", "_law_row", "_law_at"]
theorem a0w:b0l i0u ["_law_tape_here", "_law_many", "_law_most"] (a0i d0f):=⟨rfl,rfl,rfl,by decide +kernel,rfl,by decide +kernel,by decide +kernel⟩
abbrev c0x:Stmt:=top 28
abbrev i0h:List Str:=["_law_tape_here", "_law_rows", "_law_turn", "_law_row", "_law_more"]
theorem b0r:b0l i0h ["_law_tape_here"] (a0i c0x):=⟨rfl,rfl,rfl,by decide +kernel,rfl,by decide +kernel,by decide +kernel⟩
abbrev g0p:Stmt:=top 29
abbrev q0y:List Str:=["_law_tape_here", "_law_many", "_law_most"]
theorem f0l:b0l q0y ["_law_tape_here"] (a0i g0p):=⟨rfl,rfl,rfl,by decide +kernel,rfl,by decide +kernel,by decide +kernel⟩
abbrev c0a:Stmt:=top 30
abbrev e0e:List Str:=["_law_net", "_law_joining"]
theorem f0u:b0l e0e ["_law_net"] (a0i c0a):=⟨rfl,rfl,rfl,by decide +kernel,rfl,by decide +kernel,by decide +kernel⟩
abbrev f0n:Stmt:=top 31
abbrev o0v:List Str:=["_law_error", "_law_place", "_law_kinds"]
theorem d0u:b0l o0v ["_law_error", "_law_place"] (a0i f0n):=⟨rfl,rfl,rfl,by decide +kernel,rfl,by decide +kernel,by decide +kernel⟩
abbrev g0t:Stmt:=top 32
abbrev r0c:List Str:=["_law_held", "_law_many", "_law_things", "_law_k", "_law_other", "_law_best_here", "_law_pair"]
theorem c0n:b0l r0c ["_law_held"] (a0i g0t):=⟨rfl,rfl,rfl,by decide +kernel,rfl,by decide +kernel,by decide +kernel⟩
abbrev g0b:Stmt:=top 33
abbrev l0q:List Str:=["_law_things", "_law_pair", "_law_thing"]
theorem t0s:b0l l0q ["_law_things", "_law_pair", "_law_thing"] (a0i g0b):=⟨rfl,rfl,rfl,by decide +kernel,rfl,by decide +kernel,by decide +kernel⟩
abbrev d0v:Stmt:=top 34
abbrev g0v:List Str:=["_law_many", "_law_rows", "_law_held", "_law_joins", "_law_pair"]
theorem e0j:b0l g0v ["_law_many", "_law_rows"] (a0i d0v):=⟨rfl,rfl,rfl,by decide +kernel,rfl,by decide +kernel,by decide +kernel⟩
abbrev g0q:Stmt:=top 35
abbrev q0z:List Str:=["_law_wish_here", "_law_found", "_law_kept", "e"]
theorem d0l:b0l q0z ["_law_wish_here"] (a0i g0q):=⟨rfl,rfl,rfl,by decide +kernel,rfl,by decide +kernel,by decide +kernel⟩
abbrev t0t:Stmt:=top 36
abbrev c1b:List Str:=["_law_script", "_law_tape_here", "_law_many", "_law_rows", "_law_due_here", "_law_total", "_law_turn", "_law_found"]
theorem i0n:b0l c1b ["_law_script"] (a0i t0t):=⟨rfl,rfl,rfl,by decide +kernel,rfl,by decide +kernel,by decide +kernel⟩
section
variable {P:Program}{w:World}{K:PySem.W.Frag}{mg:Str->Option Value}{base:Heap}
theorem q0v (D:DefN K mg "_law_tape" g0r ["_law_script"])(B:BI mg):OkN P w K mg base 1 "_law_tape" ["_law_script"] (spA K f1f):=by
 refine OkN.imp (sp:=v0s K) ?_ d1b
 refine D.ok q0j (fun vs H Q E h=>?_) (fun f cdv A outer s H vs Q E hr h=>?_)
 ·obtain⟨a,ns,rfl,_⟩:=h
  rfl
 ·obtain⟨a,ns,rfl,hS,k⟩:=h
  refine⟨_,(a0n (b0t (d1n (m0p e0q (m0q (m0j K) (pv 0) q0m (q0l a0h)) (m0p e0q a0h (m0p e0q a0h d1k))) rfl rfl (by simp) (by decide)))),?_⟩
  intro t ht
  have s0:Same H (upd H t (.dK [])):=(Same.refl H).new ht
  refine⟨_,rfl,63,rfl,a,_,rfl,s0.seq hS,fun l hl=>?_⟩
  have ntl:t≠l:=b0b a0y hl
  refine⟨by rw[a0o ntl,a0y],[(Sum.inr ("cells" : Str),V.ref l),(Sum.inr ("spot" : Str),V.int 0),(Sum.inr ("left" : Str),V.int 0)],rfl,(by show 3<=15;decide),?_⟩
  rw[v0j]
  have fin:=k t l ht (s0.free hl) ntl
  have eq:upd (upd (upd H t (.dK [])) l (.lst (cutV (ns.map V.int) none (some 63)))) t (.dK (c0t l 0 0))=upd (upd H l (.lst ((ns.take 63).map V.int))) t (.dK (c0t l 0 0)):=by
   rw[j1l]
   funext b
   unfold upd
   by_cases h1:b=t
   ·rw[if_pos h1,if_pos h1]
   ·rw[if_neg h1,if_neg h1,if_neg h1]
  rw[eq]
  exact fin
theorem q0w (D:DefN K mg "_law_draw" g0s ["_law_tape_here", "_law_many"])(B:BI mg):OkN P w K mg base 1 "_law_draw" ["_law_tape_here", "_law_many"] (spA K y0t):=by
 refine OkN.imp (sp:=v0t K) ?_ e1t
 refine D.ok d0b (fun vs H Q E h=>?_) (fun f cdv A outer s H vs Q E hr h=>?_)
 ·obtain⟨t,c,m,sp,lf,ns,n,rfl,_⟩:=h
  rfl
 ·obtain⟨t,c,m,sp,lf,ns,n,rfl,hT,hC,h1,h2,h3,hn,hm,k⟩:=h
  have hu:=f0d hr
  have hm0:=hm.1
  have gl:DGet H t (kV (Sum.inr "left")) (some (.int lf)):=by rw[<- v0k (c:=c) (sp:=sp)];exact DGet.k hT
  have gs:DGet H t (kV (Sum.inr "spot")) (some (.int sp)):=by rw[<- v0i (c:=c) (lf:=lf)];exact DGet.k hT
  have gc:DGet H t (kV (Sum.inr "cells")) (some (.ref c)):=by rw[<- l0h (sp:=sp) (lf:=lf)];exact DGet.k hT
  refine⟨_,(a0f (f0a (a0v i0f (h0f hu (pv 0) e0q (fun _ _=>rfl)) a0h (b0m _))
   (a0f (b0c (i:=2) d0b.nd rfl (by first | exact Or.inl rfl | exact Or.inr rfl) (b0d j0w (h0f hu (pv 0) e0q (fun _ _=>rfl)) (pv 1)))
   (a0f (j0r hu (pv 0) e0q (b0d m0s (h0f hu (pv 0) e0q (fun _ _=>rfl)) (pv 1)) rfl)
   (a0n (b0t (pv 2)))))
   c0b)
   (a0f (b0c (i:=3) d0b.nd rfl (by first | exact Or.inl rfl | exact Or.inr rfl) (h0f hu (pv 0) e0q (fun _ _=>rfl)))
   (a0f (j0r hu (pv 0) e0q (b0d c0w (pv 3) a0h) rfl)
   (a0f (b0c (i:=4) d0b.nd rfl (by first | exact Or.inl rfl | exact Or.inr rfl) (h0f hu (pv 0) e0q (fun _ _=>rfl)))
   (a0f (b0c (i:=5) d0b.nd rfl (by first | exact Or.inl rfl | exact Or.inr rfl) a0h)
   (a0f (f0a (a0v i0f (a0m (b0e K) rfl B.len_ d0d (a0b (pv 4) a0e)) a0h (b0m _))
   (a0n (b0c (i:=5) d0b.nd rfl (by first | exact Or.inl rfl | exact Or.inr rfl) (g0g (c0o K) (pv 4) (b0d j0w (pv 3) (a0m (b0e K) rfl B.len_ d0d (a0b (pv 4) a0e))) (fun _ _=>rfl))))
   c0b)
   (a0f (f0a (PW.pt (i0o (a0v j1g (pv 5) (b0d w0o a0h a0h) (b0m _)) (g0c (a0v d1u (pv 3) (a0m (b0e K) rfl B.len_ d0d (a0b (pv 4) a0e)) (b0m _)))))
   (a0f (j0r hu (pv 0) e0q (b0d m0s (b0d l0m (pv 5) (b0d w0o a0h a0h)) (pv 1)) rfl)
   (a0n (b0t (b0d j0w (b0d l0m (pv 5) (b0d w0o a0h a0h)) (pv 1)))))
   c0b)
   (a0f (b0c (i:=6) d0b.nd rfl (by first | exact Or.inl rfl | exact Or.inr rfl) (b0d j0w (b0d o0l (b0d c0w (b0d c0w (b0d c0w (b0d j0w (pv 5) a0h) (b0d o0l (b0d o0l a0h (pv 3)) (pv 3))) (b0d o0l a0h (pv 3))) a0h) a0h) a0h))
   (a0n (b0t (b0d j0w (b0d m0s (b0d j0w (b0d o0l (pv 6) (b0d c0w (pv 6) a0h)) a0h) a0h) (pv 1)))))))))))),?_⟩
  refine⟨_,rfl,t,_,rfl,gl,_,_,rfl,rfl,_,rfl,ite2 (fun hl=>?_) fun hl=>?_⟩
  ·refine⟨_,rfl,t,_,rfl,gl,_,rfl,_,_,rfl,rfl,hm0,?_⟩
   refine⟨_,rfl,t,_,rfl,gl,_,rfl,_,_,rfl,rfl,hm,_,rfl,t,_,rfl,DPut.k (k:=Sum.inr "left") hT (h0n (by show 3<=1000;decide)),_,rfl,?_⟩
   rw[m0n]
   exact drawn (Q:=fun z H=>Q (.int z) H) hm0 fun r hr=>k r _ _ hr h1 (by omega) (Int.ediv_nonneg h3 (Int.le_of_lt hm0))
  ·refine⟨_,rfl,t,_,rfl,gs,?_⟩
   refine⟨_,rfl,_,_,rfl,rfl,_,rfl,t,_,rfl,DPut.k (k:=Sum.inr "spot") hT (h0n (by show 3<=1000;decide)),?_⟩
   rw[z0o]
   have hT1:(upd H t (.dK (c0t c (sp+1) lf))) t=some (.dK (c0t c (sp+1) lf)):=a0y
   have hC1:SqL K (upd H t (.dK (c0t c (sp+1) lf))) c (ns.map V.int):=Grow.seq (Grow.refl.upd _) hT hC
   have gr1:Grow t H (upd H t (.dK (c0t c (sp+1) lf))):=Grow.refl.upd _
   have gc1:DGet (upd H t (.dK (c0t c (sp+1) lf))) t (kV (Sum.inr "cells")) (some (.ref c)):=by rw[<- l0h (sp:=sp+1) (lf:=lf)];exact DGet.k hT1
   have kk:∀(r:Nat) (lf':Int),(r:Int)<m->0<=lf'->Q (.int (r:Nat)) (upd (upd H t (.dK (c0t c (sp+1) lf))) t (.dK (c0t c (sp+1) lf'))):=fun r lf' hr hl=>by rw[c1x];exact k r _ _ hr (by omega) (by omega) hl
   have kl:∀(r:Nat),(r:Int)<m->Q (.int (r:Nat)) (upd H t (.dK (c0t c (sp+1) lf))):=fun r hr=>k r _ _ hr (by omega) (by omega) h3
   generalize upd H t (.dK (c0t c (sp+1) lf))=H1 at hT1 hC1 gr1 gc1 kk kl ⊢
   refine⟨_,rfl,t,_,rfl,gc1,?_⟩
   have p18:(10:Int)^(18:Int).toNat=1000000000000000000:=by decide
   have fits:CPow 10 18:=⟨by decide,by decide,by decide⟩
   have pos1:(0:Int)<2147483629:=by decide
   have pos2:(0:Int)<2147483647:=by decide
   have spOk:-(2^64)<sp/\sp<2^64:=by omega
   refine⟨_,rfl,c,_,rfl,.inl hC1,_,_,rfl,rfl,_,rfl,ite2 (fun hl=>?_) fun hl=>?_⟩
   ·have hl':0<ns.length:=by
     have:=of_decide_eq_true hl
     rw[List.length_map]at this
     omega
    have el:((ns.map V.int).length:Int)=ns.length:=by rw[List.length_map]
    have hb0:0<=sp % ((ns.map V.int).length:Int):=Int.emod_nonneg _ (by omega)
    have hb1:sp % ((ns.map V.int).length:Int)<((ns.map V.int).length:Int):=Int.emod_lt_of_pos _ (by omega)
    obtain⟨j,hj⟩:=Int.eq_ofNat_of_zero_le hb0
    have hj':j<ns.length:=by rw[hj]at hb1;omega
    refine⟨_,rfl,_,rfl,_,rfl,c,_,rfl,.inl hC1,_,_,rfl,rfl,(by show(0:Int)<((ns.map V.int).length:Int);omega),.inl ⟨c,_,_,V.int ns[j],rfl,rfl,hC1,?_,?_⟩⟩
    ·rw[hj]
     exact y0o (by simp[hj'])
    ·generalize ns[j]=z
     refine⟨_,rfl,_,_,rfl,rfl,fits,_,_,rfl,rfl,_,rfl,ite2 (fun hz=>?_) fun hz=>?_⟩
     ·refine⟨_,rfl,_,rfl,c,_,rfl,.inl hC1,_,_,rfl,rfl,_,rfl,ite2 (fun hs=>?_) fun hs=>?_⟩
      ·refine⟨_,rfl,_,_,rfl,rfl,fits,_,_,rfl,rfl,_,rfl,_,_,rfl,rfl,hm,_,rfl,t,_,rfl,DPut.k (k:=Sum.inr "left") hT1 (h0n (by show 3<=1000;decide)),?_⟩
       rw[m0n]
       refine⟨_,rfl,_,_,rfl,rfl,fits,_,_,rfl,rfl,_,rfl,_,_,rfl,rfl,hm0,?_⟩
       refine drawn (Q:=fun z H=>Q (.int z) H) hm0 fun r hr=>kk r _ hr (Int.ediv_nonneg ?_ (Int.le_of_lt hm0))
       have hz':=of_decide_eq_true hz
       rw[p18]at hz' ⊢
       omega
      ·refine⟨_,rfl,_,_,rfl,rfl,pos1,_,rfl,_,_,rfl,rfl,.inl ⟨by decide,by decide⟩,_,rfl,_,_,rfl,rfl,.inr spOk,_,_,rfl,rfl,_,rfl,_,_,rfl,rfl,.inl ⟨by decide,by decide⟩,_,_,rfl,rfl,_,_,rfl,rfl,_,_,rfl,rfl,.inr ⟨by decide,by decide⟩,_,_,rfl,rfl,pos2,?_⟩
       refine⟨_,rfl,_,rfl,_,_,rfl,rfl,_,_,rfl,rfl,.inl s0a,_,_,rfl,rfl,pos1,_,_,rfl,rfl,dv64,_,rfl,_,_,rfl,rfl,hm0,?_⟩
       exact drawn (Q:=fun z H=>Q (.int z) H) hm0 fun r hr=>kl r hr
     ·refine⟨_,rfl,_,_,rfl,rfl,pos1,_,rfl,_,_,rfl,rfl,.inl ⟨by decide,by decide⟩,_,rfl,_,_,rfl,rfl,.inr spOk,_,_,rfl,rfl,_,rfl,_,_,rfl,rfl,.inl ⟨by decide,by decide⟩,_,_,rfl,rfl,_,_,rfl,rfl,_,_,rfl,rfl,.inr ⟨by decide,by decide⟩,_,_,rfl,rfl,pos2,?_⟩
      refine⟨_,rfl,_,rfl,_,_,rfl,rfl,_,_,rfl,rfl,.inl s0a,_,_,rfl,rfl,pos1,_,_,rfl,rfl,dv64,_,rfl,_,_,rfl,rfl,hm0,?_⟩
      exact drawn (Q:=fun z H=>Q (.int z) H) hm0 fun r hr=>kl r hr
   ·refine⟨_,rfl,_,_,rfl,rfl,fits,_,_,rfl,rfl,_,rfl,ite2 (fun hz=>?_) fun hz=>?_⟩
    ·refine⟨_,rfl,_,rfl,c,_,rfl,.inl hC1,_,_,rfl,rfl,_,rfl,ite2 (fun hs=>?_) fun hs=>?_⟩
     ·refine⟨_,rfl,_,_,rfl,rfl,fits,_,_,rfl,rfl,_,rfl,_,_,rfl,rfl,hm,_,rfl,t,_,rfl,DPut.k (k:=Sum.inr "left") hT1 (h0n (by show 3<=1000;decide)),?_⟩
      rw[m0n]
      refine⟨_,rfl,_,_,rfl,rfl,fits,_,_,rfl,rfl,_,rfl,_,_,rfl,rfl,hm0,?_⟩
      refine drawn (Q:=fun z H=>Q (.int z) H) hm0 fun r hr=>kk r _ hr (Int.ediv_nonneg ?_ (Int.le_of_lt hm0))
      have hz':=of_decide_eq_true hz
      rw[p18]at hz' ⊢
      omega
     ·refine⟨_,rfl,_,_,rfl,rfl,pos1,_,rfl,_,_,rfl,rfl,.inl ⟨by decide,by decide⟩,_,rfl,_,_,rfl,rfl,.inr spOk,_,_,rfl,rfl,_,rfl,_,_,rfl,rfl,.inl ⟨by decide,by decide⟩,_,_,rfl,rfl,_,_,rfl,rfl,_,_,rfl,rfl,.inr ⟨by decide,by decide⟩,_,_,rfl,rfl,pos2,?_⟩
      refine⟨_,rfl,_,rfl,_,_,rfl,rfl,_,_,rfl,rfl,.inl s0a,_,_,rfl,rfl,pos1,_,_,rfl,rfl,dv64,_,rfl,_,_,rfl,rfl,hm0,?_⟩
      exact drawn (Q:=fun z H=>Q (.int z) H) hm0 fun r hr=>kl r hr
    ·refine⟨_,rfl,_,_,rfl,rfl,pos1,_,rfl,_,_,rfl,rfl,.inl ⟨by decide,by decide⟩,_,rfl,_,_,rfl,rfl,.inr spOk,_,_,rfl,rfl,_,rfl,_,_,rfl,rfl,.inl ⟨by decide,by decide⟩,_,_,rfl,rfl,_,_,rfl,rfl,_,_,rfl,rfl,.inr ⟨by decide,by decide⟩,_,_,rfl,rfl,pos2,?_⟩
     refine⟨_,rfl,_,rfl,_,_,rfl,rfl,_,_,rfl,rfl,.inl s0a,_,_,rfl,rfl,pos1,_,_,rfl,rfl,dv64,_,rfl,_,_,rfl,rfl,hm0,?_⟩
     exact drawn (Q:=fun z H=>Q (.int z) H) hm0 fun r hr=>kl r hr
end
def pairsN (things:List Nat):List (Nat×Nat):=(List.range things.length).flatMap fun k=>(things.drop (k+1)).map fun y=>(things.getD k 0,y)
def n0q:ASp:=fun ss q=>∃things:List Nat,ss=[.vl (.lst (a0p things))]/\things.length<=100/\q (.f ((pairsN things).map L2.b0h)) [.vl (.lst (a0p things))]
theorem g0h {xs:List Nat}{n k:Nat}(h:xs.length<=n):(((List.range k).flatMap fun k=>(xs.drop (k+1)).map fun y=>(xs.getD k 0,y))).length<=k*n:=by
 induction k with
 | zero=>simp
 | succ k ih =>
  rw[List.range_succ,List.flatMap_append,List.length_append,Nat.succ_mul]
  have:(List.flatMap (fun k=>(xs.drop (k+1)).map fun y=>(xs.getD k 0,y)) [k]).length<=n:=by
   simp;omega
  omega
def lstN (t:List Nat):D:=.lst (a0p t)
def keyP (p:Nat×Nat):List Key:=[.inl ((p.1:Nat):Int),.inl ((p.2:Nat):Int)]
def dtP (kvs:List ((Nat×Nat)×Int)):List (List Key×D):=kvs.map fun e=>(keyP e.1,.int e.2)
theorem m0y {p q:Nat×Nat}(h:keyP p=keyP q):p=q:=by
 unfold keyP at h
 simp only[List.cons.injEq,Sum.inl.injEq,and_true]at h
 exact Prod.ext (by omega) (by omega)
def Tal (kvs:List ((Nat×Nat)×Int))(ps:List (Nat×Nat)):Prop:=(∀e∈kvs,e.1∈ps/\e.2=((ps.count e.1:Nat):Int))/\∀p∈ps,∃e∈kvs,e.1=p
theorem n0j (p:Nat×Nat):∀kvs,valD (dtP kvs) (keyP p)=(kvs.find? fun e=>decide (e.1=p)).map fun e=>D.int e.2
 | []=>rfl
 | e::kvs=>by
  have ih:=n0j p kvs
  unfold valD dtP at *
  rw[List.map_cons,List.find?_cons,List.find?_cons]
  by_cases h:e.1=p
  ·have h1:decide (keyP e.1=keyP p)=true:=decide_eq_true (by rw[h])
   have h2:decide (e.1=p)=true:=decide_eq_true h
   simp only[h1,h2];rfl
  ·have h1:decide (keyP e.1=keyP p)=false:=decide_eq_false fun z=>h (m0y z)
   have h2:decide (e.1=p)=false:=decide_eq_false h
   simp only[h1,h2];exact ih
theorem q0f {kvs:List ((Nat×Nat)×Int)}{ps:List (Nat×Nat)}(h:Tal kvs ps)(p:Nat×Nat):(valD (dtP kvs) (keyP p)).getD (.int 0) = .int ((ps.count p:Nat):Int):=by
 rw[n0j]
 cases hf:kvs.find? fun e=>decide (e.1=p)with
 | some e =>
  have e0:=List.find?_some hf
  have e1:e.1=p:=of_decide_eq_true e0
  have e2:=(h.1 e (List.mem_of_find?_eq_some hf)).2
  rw[e1]at e2
  rw[Option.map_some,Option.getD_some,e2]
 | none =>
  have:p∉ps:=fun hp=>by
   obtain⟨e,he,ep⟩:=h.2 p hp
   have:=List.find?_eq_none.mp hf e he
   simp[ep]at this
  rw[List.count_eq_zero.mpr this];rfl
def putT (kvs:List ((Nat×Nat)×Int))(p:Nat×Nat)(c:Int):List ((Nat×Nat)×Int):=if(kvs.any fun e=>decide (e.1=p))=true then kvs.map fun e=>if e.1=p then(e.1,c)else e else kvs++[(p,c)]
theorem v0l (kvs:List ((Nat×Nat)×Int))(p:Nat×Nat)(c:Int):putD (dtP kvs) (keyP p) (.int c)=dtP (putT kvs p c):=by
 have ea:((dtP kvs).any fun kv=>decide (kv.1=keyP p))=kvs.any fun e=>decide (e.1=p):=by
  unfold dtP
  rw[List.any_map]
  congr 1
  funext e
  simp only[Function.comp]
  by_cases h:e.1=p
  ·rw[decide_eq_true h,decide_eq_true (by rw[h])]
  ·rw[decide_eq_false h,decide_eq_false fun z=>h (m0y z)]
 unfold putD putT
 rw[ea]
 split
 ·unfold dtP
  rw[List.map_map,List.map_map]
  refine List.map_congr_left fun e _=>?_
  simp only[Function.comp]
  by_cases h:e.1=p
  ·rw[if_pos h,if_pos (by rw[h])]
  ·rw[if_neg h,if_neg fun z=>h (m0y z)]
 ·unfold dtP;rw[List.map_append];rfl
theorem s0e (kvs:List ((Nat×Nat)×Int))(p:Nat×Nat)(c:Int):(putT kvs p c).length<=kvs.length+1:=by
 unfold putT
 split
 ·rw[List.length_map];omega
 ·simp
theorem Tal.snoc {kvs:List ((Nat×Nat)×Int)}{ps:List (Nat×Nat)}(h:Tal kvs ps)(p:Nat×Nat):Tal (putT kvs p (((ps.count p:Nat):Int)+1)) (ps++[p]):=by
 have cs:∀q,(ps++[p]).count q=ps.count q+if p=q then 1 else 0:=fun q=>by
  rw[List.count_append,List.count_singleton]
  by_cases e:p=q
  ·rw[if_pos e,if_pos (by simp[e])]
  ·rw[if_neg e,if_neg (by simp[e])]
 unfold putT
 by_cases ha:(kvs.any fun e=>decide (e.1=p))=true
 ·rw[if_pos ha]
  refine⟨fun e he=>?_,fun q hq=>?_⟩
  ·obtain⟨e0,h0,rfl⟩:=List.mem_map.mp he
   obtain⟨a,b⟩:=h.1 e0 h0
   by_cases z:e0.1=p
   ·rw[if_pos z]
    refine⟨List.mem_append_left _ a,?_⟩
    show _=(((ps++[p]).count e0.1:Nat):Int)
    rw[cs,z,if_pos rfl];simp
   ·rw[if_neg z]
    refine⟨List.mem_append_left _ a,?_⟩
    rw[cs,if_neg fun y=>z y.symm,b];simp
  ·have:∃e∈kvs,e.1=q:=by
    rcases List.mem_append.mp hq with hq | hq
    ·exact h.2 q hq
    ·rw[List.mem_singleton.mp hq]
     obtain⟨e,he,ee⟩:=List.any_eq_true.mp ha
     exact⟨e,he,of_decide_eq_true ee⟩
   obtain⟨e,he,rfl⟩:=this
   refine⟨_,List.mem_map.mpr ⟨e,he,rfl⟩,?_⟩
   split <;> rfl
 ·rw[if_neg ha]
  have hn:p∉ps:=fun hp=>by
   obtain⟨e,he,ep⟩:=h.2 p hp
   exact ha (List.any_eq_true.mpr ⟨e,he,decide_eq_true ep⟩)
  refine⟨fun e he=>?_,fun q hq=>?_⟩
  ·rcases List.mem_append.mp he with he | he
   ·obtain⟨a,b⟩:=h.1 e he
    refine⟨List.mem_append_left _ a,?_⟩
    rw[cs,if_neg (fun y:p=e.1=>hn (by rw[y];exact a)),b];simp
   ·rw[List.mem_singleton.mp he]
    refine⟨List.mem_append_right _ (List.mem_singleton.mpr rfl),?_⟩
    show _=(((ps++[p]).count p:Nat):Int)
    rw[cs,if_pos rfl];simp
  ·rcases List.mem_append.mp hq with hq | hq
   ·obtain⟨e,he,ee⟩:=h.2 q hq
    exact⟨e,List.mem_append_left _ he,ee⟩
   ·rw[List.mem_singleton.mp hq]
    exact⟨_,List.mem_append_right _ (List.mem_singleton.mpr rfl),rfl⟩
theorem e1c {p:Nat->Prop}(h:∃n,p n):∃n,p n/\∀k,p k->n<=k:=by
 obtain⟨n,hn⟩:=h
 induction n using Nat.strongRecOn with
 | ind n ih =>
  by_cases e:∃k,k<n/\p k
  ·obtain⟨k,hk,pk⟩:=e
   exact ih k hk pk
  ·exact⟨n,hn,fun k pk=>by
    apply Classical.byContradiction
    intro z
    exact e ⟨k,by omega,pk⟩⟩
def IsCo (ps:List (Nat×Nat))(p:Nat×Nat):Prop:=p∈ps/\∀p'∈ps,ps.count p'<ps.count p∨(ps.count p'=ps.count p/\(p.1<p'.1∨(p.1=p'.1/\p.2<=p'.2)))
theorem x0c {ps:List (Nat×Nat)}{p p':Nat×Nat}(h:IsCo ps p)(h':IsCo ps p'):p=p':=by
 have h1:=h.2 p' h'.1
 have h2:=h'.2 p h.1
 exact Prod.ext (by omega) (by omega)
theorem e1i {ps:List (Nat×Nat)}(h:ps≠[]):∃p,IsCo ps p:=by
 obtain⟨p0,hp0⟩:=List.exists_mem_of_ne_nil ps h
 have cl:∀p,ps.count p<=ps.length:=fun p=>List.count_le_length
 obtain⟨c,⟨p1,h1,e1⟩,hc⟩:=e1c (p:=fun c=>∃p∈ps,ps.length - ps.count p=c) ⟨_,p0,hp0,rfl⟩
 obtain⟨a,⟨p2,h2,e2,f2⟩,ha⟩:=e1c (p:=fun a=>∃p∈ps,ps.length - ps.count p=c/\p.1=a) ⟨_,p1,h1,e1,rfl⟩
 obtain⟨b,⟨p3,h3,e3,f3,g3⟩,hb⟩:=e1c (p:=fun b=>∃p∈ps,ps.length - ps.count p=c/\p.1=a/\p.2=b) ⟨_,p2,h2,e2,f2,rfl⟩
 refine⟨p3,h3,fun p' hp'=>?_⟩
 have k1:=hc _ ⟨p',hp',rfl⟩
 have c1:=cl p'
 have c3:=cl p3
 by_cases e:ps.length - ps.count p'=c
 ·have k2:=ha _ ⟨p',hp',e,rfl⟩
  by_cases e':p'.1=a
  ·have k3:=hb _ ⟨p',hp',e,e',rfl⟩
   omega
  ·omega
 ·omega
open Classical in
noncomputable def coP (ps:List (Nat×Nat)):Nat×Nat:=if h:∃p,IsCo ps p then h.choose else(0,0)
theorem t0e {ps:List (Nat×Nat)}{p:Nat×Nat}(h:IsCo ps p):coP ps=p:=by
 have hx:∃p,IsCo ps p:=⟨p,h⟩
 unfold coP
 rw[dif_pos hx]
 exact x0c hx.choose_spec h
noncomputable def coF (held:List (List Nat)):Nat×Nat:=coP (held.flatMap pairsN)
theorem i0e {t:List Nat}(h:2<=t.length):0<(pairsN t).length:=by
 unfold pairsN
 match t,h with
 | a::b::t,_ =>
  have:(a,b)∈(List.range (a::b::t).length).flatMap fun k=>((a::b::t).drop (k+1)).map fun y=>((a::b::t).getD k 0,y):=List.mem_flatMap.mpr ⟨0,by simp,by simp⟩
  exact List.length_pos_of_mem this
theorem s0w (n:Nat)(xs:List Nat):inD (nD n) (a0p xs)=xs.contains n:=by
 unfold inD a0p
 rw[List.any_map]
 induction xs with
 | nil=>rfl
 | cons x xs ih =>
  rw[List.any_cons,List.contains_cons,ih]
  congr 1
  show eqD (nD x) (nD n)=(n==x)
  unfold eqD
  show decide ((x:Int)=(n:Int))=(n==x)
  by_cases h:n=x
  ·subst h;simp
  ·have:¬((x:Int)=(n:Int)):=by omega
   simp[h,this]
theorem t0a {neg:Bool}{r2:R}{ρ:En}{q:Ko}{xs:List Nat}{n:Nat}(hv:view ρ r2=some (.lst (a0p xs)))(hq:q (.d (.bl (if neg then !xs.contains n else xs.contains n))) ρ):gIn neg (.d (nD n)) r2 ρ q:=by
 unfold gIn
 have e1:view ρ (.d (nD n))=some (nD n):=rfl
 rw[e1,hv]
 refine⟨⟨rfl,List.all_eq_true.mpr fun d hd=>?_⟩,?_⟩
 ·obtain⟨x,_,rfl⟩:=List.mem_map.mp hd;rfl
 ·rw[s0w];exact hq
theorem c1g {neg:Bool}{r2:R}{ρ:En}{q:Ko}{xs:List Nat}{n:Nat}(hv:view ρ r2=some (.tup (a0p xs)))(hq:q (.d (.bl (if neg then !xs.contains n else xs.contains n))) ρ):gIn neg (.d (nD n)) r2 ρ q:=by
 unfold gIn
 have e1:view ρ (.d (nD n))=some (nD n):=rfl
 rw[e1,hv]
 refine⟨⟨rfl,List.all_eq_true.mpr fun d hd=>?_⟩,?_⟩
 ·obtain⟨x,_,rfl⟩:=List.mem_map.mp hd;rfl
 ·rw[s0w];exact hq
def c0e (t:List Nat)(p:Nat×Nat)(n:Nat):List Nat:=if p.1∈t/\p.2∈t then(t.filter fun x=>!([p.1,p.2].contains x))++[n]else t
def k0t:ASp:=fun ss q=>∃(t:List Nat) (p:Nat×Nat) (n:Nat),ss=[.vl (lstN t),.vl (L2.b0h p),nv n]/\t.length<=100/\(p.1∈t/\p.2∈t->q (.f (a0p (c0e t p n))) [.vl (lstN t),.vl (L2.b0h p),nv n])/\(¬(p.1∈t/\p.2∈t)->q (.d (lstN t)) [.vl (lstN t),.vl (L2.b0h p),nv n])
theorem j0d (P:Nat->Bool)(xs:List Nat)(x:Nat):a0p ((xs++[x]).filter P)=if P x=true then a0p (xs.filter P)++[nD x]else a0p (xs.filter P):=by
 rw[List.filter_append]
 unfold a0p
 rw[List.map_append]
 cases h:P x <;> simp[h]
def n0s:ASp:=fun ss q=>∃held:List (List Nat),ss=[.ow (held.map lstN)]/\held.length<=24/\(∀t∈held,t.length<=100)/\(∃t∈held,2<=t.length)/\q (.d (L2.b0h (coF held))) [.ow (held.map lstN)]
theorem f1z {i j:Nat}{d1 d2:D}{ρ:En}{k:En->Prop}(h:k (pt (pt ρ i (.vl d1)) j (.vl d2))):e1o 2 (x0i (s0y i) (x0i (s0y j) gaNil)) (.tup [d1,d2]) ρ k:=h
section
variable {P:Program}{w:World}{K:PySem.W.Frag}{mg:Str->Option Value}{base:Heap}
theorem q0s (dn:DefN K mg "pairs_in" e0z ["things"])(B:BI mg):OkN P w K mg base 1 "pairs_in" ["things"] (spA K n0q):=by
 refine dn.aok2 (k:=0) q0i (fun j=>j==0) [] n0q rfl (fun f cdv A outer s H E hr=>have hu:=f0d hr;⟨_,(a0n (b0t (z0v ["other", "place", "one"] [0] rfl (Blk.of (a0i e0z) k0d) (d1l K rfl B.enumerate_ (a0b (pv 0) a0e)) (fun _ _ _ _ nd=>(i0d K (n:=2) rfl (c0y (a0t (i:=1) nd rfl (by first | exact Or.inl rfl | exact Or.inr rfl)) (c0y (a0t (i:=2) nd rfl (by first | exact Or.inl rfl | exact Or.inr rfl)) i0c)))) (fun _ _ _ _=>c0r) (fun _ _ _ _=>(b0u K (m0q (m0j K) (pv 3) (q0l (b0d c0w (pv 1) a0h)) q0m))) (fun _ _ _ _ nd=>(a0t (i:=0) nd rfl (by first | exact Or.inl rfl | exact Or.inr rfl))) (fun _ _ _ _=>c0r) (fun _ _ _ _=>(d0j (a0b (pv 2) (a0b (pv 0) a0e))))))),(b0g (v0g (n2:=1) (v0h (a0a a0c a0d)) (g0n (b0v (a0l rfl) (b0v (a0l rfl) e0y (fun _ _ _=>e0f)) (fun _ _ _=>e0f))) b0y (b0i (v0e a0c (n0w (a0j b0a a0c a0g)) v0c)) (a0l rfl) b0y (c0m (a0a a0c (a0a a0c a0d)))))⟩) ?_
 rintro ss q ⟨things,rfl,hl,hq⟩
 refine⟨rfl,rfl,?_⟩
 refine y0b (fun i acc ρ=>i<=things.length/\acc=(((List.range i).flatMap fun k=>(things.drop (k+1)).map fun y=>(things.getD k 0,y)).map L2.b0h)/\ρ=[.vl (.lst (a0p things))]) ?_ ?_ ?_ _ ⟨Nat.zero_le _,rfl,rfl⟩
 ·rintro i acc ρ hi ⟨hi2,rfl,rfl⟩
  have:=g0h (xs:=things) (k:=i) hl
  rw[List.length_map]
  have h2:i*100<=100*100:=Nat.mul_le_mul (by omega) (Nat.le_refl _)
  exact⟨by first | rfl | trivial,by omega⟩
 ·rintro i d acc _ N hi ⟨hi2,rfl,rfl⟩ hN
  obtain⟨x,ex,rfl⟩:=k0m hi
  rw[Nat.zero_add]
  unfold a0p at ex
  rw[List.getElem?_map]at ex
  obtain⟨one,et,rfl⟩:=Option.map_eq_some_iff.mp ex
  have lt:=(List.getElem?_eq_some_iff.mp et).1
  have eg:things.getD i 0=one:=by rw[List.getD_eq_getElem?_getD,et];rfl
  have pl:=g0h (xs:=things) (k:=i) hl
  have h2:i*100<=100*100:=Nat.mul_le_mul (by omega) (Nat.le_refl _)
  have ec:cutD (a0p things) (some ((i:Int)+1)) none=(things.drop (i+1)).map nD:=by
   rw[show(i:Int)+1=((i+1:Nat):Int)by omega,p0p]
   unfold a0p;rw[List.map_drop]
  refine f1z ?_
  show h0j _ _ _ _ _ _ (cutD (a0p things) (some ((i:Int)+1)) none) _ _
  rw[ec]
  generalize hA:(List.flatMap (fun k=>List.map (fun y=>(things.getD k 0,y)) (List.drop (k+1) things)) (List.range i))=A at pl
  refine y0a (fun j ac ρ=>j<=(things.drop (i+1)).length/\ac=A.map L2.b0h++((things.drop (i+1)).take j).map (fun y=>L2.b0h (one,y))/\ρ=[.un,nv i,nv one,.vl (.lst (a0p things))]) ?_ ?_ ?_ _ _ ⟨Nat.zero_le _,by simp,rfl⟩
  ·rintro j ac ρ _ ⟨hj,rfl,rfl⟩
   rw[List.length_append,List.length_map,List.length_map,List.length_take]
   rw[List.length_drop]at hj ⊢
   exact⟨by first | rfl | trivial,by omega⟩
  ·rintro j d ac _ N2 hj ⟨hj1,rfl,rfl⟩ hN2
   rw[List.getElem?_map]at hj
   obtain⟨y,ey,rfl⟩:=Option.map_eq_some_iff.mp hj
   have ly:=(List.getElem?_eq_some_iff.mp ey).1
   refine⟨by simp,hN2 _ _ ⟨ly,?_,rfl⟩⟩
   rw[List.take_add_one,ey,Option.toList_some,List.map_append,List.append_assoc];rfl
  ·rintro ac _ ⟨_,rfl,rfl⟩
   rw[List.length_map,List.take_length]
   refine hN _ _ ⟨lt,?_,rfl⟩
   rw[List.range_succ,List.flatMap_append,List.map_append,hA,List.flatMap_singleton,List.map_map,eg]
   rfl
 ·rintro acc _ ⟨_,rfl,rfl⟩
  rw[k0l,a0x]
  exact hq
theorem o0s (dn:DefN K mg "commonest" e0o ["held"])(B:BI mg)(g_pairs_in:OkN P w K mg base 1 "pairs_in" ["things"] (spA K n0q)):OkN P w K mg base 2 "commonest" ["held"] (spA K n0s):=by
 refine dn.aok2 (k:=1) d0c (fun j=>j==0) [.un,.un,.un,.un] n0s rfl (fun f cdv A outer s H E hr=>have hu:=f0d hr;⟨_,(a0f (b0c (i:=1) d0c.nd rfl (by first | exact Or.inl rfl | exact Or.inr rfl) s0i)
  (a0f (g0e PassesOwn.never rfl (b0u K (pv 0)) (a0t (i:=2) d0c.nd rfl (by first | exact Or.inl rfl | exact Or.inr rfl))
  (a0n (g0e PassesOwn.never rfl (b0u K (c0f g_pairs_in (hr.mono (by decide)) (a0b (pv 2) a0e))) (a0t (i:=3) d0c.nd rfl (by first | exact Or.inl rfl | exact Or.inr rfl))
  (a0n (j0r hu (pv 1) (pv 3) (b0d c0w (s0j hu (pv 1) (pv 3) a0h ⟨rfl,rfl,rfl,rfl⟩) a0h) rfl)))))
  (a0f (s0h (a0m (u0u K hr.units rfl) rfl B.min_ i1l (a0b (e0c ["pair", "count"] [] rfl (Blk.of (a0i e0o) i0r) (w0i (pv 1)) (fun _ _ _ _ nd=>(i0d K (n:=2) rfl (c0y (a0t (i:=0) nd rfl (by first | exact Or.inl rfl | exact Or.inr rfl)) (c0y (a0t (i:=1) nd rfl (by first | exact Or.inl rfl | exact Or.inr rfl)) i0c)))) (fun _ _ _ _=>c0r) (fun _ _ _ _=>(d0j (a0b (j1b f1y (pv 1)) (a0b (pv 0) a0e))))) a0e)) (i0d K (n:=2) rfl (c0y (a0t (i:=4) d0c.nd rfl (by first | exact Or.inl rfl | exact Or.inr rfl)) (c0y (a0t (i:=3) d0c.nd rfl (by first | exact Or.inl rfl | exact Or.inr rfl)) i0c))))
  (a0n (b0t (pv 3)))))),(a0k (a0u n0x rfl)
  (a0k (e0l (pin:=(fun j=>j==0)) (b0i a0c) (a0l rfl)
  (e0l (pin:=(fun _=>false)) (b0i (a0q (a0a a0c a0d))) (a0l rfl)
  (v0v (a0j b0a (l0g a0c a0c a0g) a0g) a0c a0c)))
  (a0k (m0h (b0j u0t (a0a (b0p (q0e a0c) (g0n (b0v (a0l rfl) (b0v (a0l rfl) e0y (fun _ _ _=>e0f)) (fun _ _ _=>e0f))) b0y (c0m (a0a (c1y a0c) (a0a a0c a0d)))) a0d)) (g0n (b0v (a0l rfl) (b0v (a0l rfl) e0y (fun _ _ _=>e0f)) (fun _ _ _=>e0f))))
  (b0g a0c))))⟩) ?_
 rintro ss q ⟨held,rfl,hl,hlt,hex,hq⟩
 refine⟨rfl,rfl,?_⟩
 refine cutS (fun ρ=>ρ=[.ow (held.map lstN),.dt (dtP []),.un,.un,.un]) (fun M hM=>hM _ rfl) ?_
 rintro _ rfl
 refine cutS (fun ρ=>∃kvs s2 s3,Tal kvs (held.flatMap pairsN)/\kvs.length<=240000/\ρ=[.ow (held.map lstN),.dt (dtP kvs),s2,s3,.un]) (fun M hM=>⟨rfl,g0w lstN (fun i ρ=>∃kvs s2 s3,Tal kvs ((held.take i).flatMap pairsN)/\kvs.length<=i*10000/\ρ=[.ow (held.map lstN),.dt (dtP kvs),s2,s3,.un]) ?_ ?_ ?_ ⟨[],.un,.un,⟨(fun e h=>by cases h),(fun p h=>by cases h)⟩,by simp,rfl⟩⟩) ?_
 ·rintro i ρ ⟨kvs,s2,s3,_,_,rfl⟩;rfl
 ·rintro i t _ M1 hi ⟨kvs,s2,s3,hk1,hk2,rfl⟩ hM1
  have ht:=List.mem_of_getElem? hi
  have hil:=(List.getElem?_eq_some_iff.mp hi).1
  have htl:=hlt t ht
  have pl:(pairsN t).length<=10000:=Nat.le_trans (g0h (xs:=t) (k:=t.length) htl) (Nat.mul_le_mul htl (Nat.le_refl 100))
  have h24:i*10000<=23*10000:=Nat.mul_le_mul (by omega) (Nat.le_refl _)
  have esn:(held.take (i+1)).flatMap pairsN=(held.take i).flatMap pairsN++pairsN t:=by rw[List.take_add_one,hi,Option.toList_some,List.flatMap_append,List.flatMap_singleton]
  refine⟨rfl,t,rfl,htl,g0w L2.b0h (fun j ρ=>∃kvs' s3,Tal kvs' ((held.take i).flatMap pairsN++(pairsN t).take j)/\kvs'.length<=i*10000+j/\ρ=[.ow (held.map lstN),.dt (dtP kvs'),.vl (lstN t),s3,.un]) (fun _ _ _=>trivial) ?_ ?_ ⟨kvs,s3,by simpa using hk1,hk2,rfl⟩⟩
  ·rintro j p _ M2 hj ⟨kvs',s3',a1,a2,rfl⟩ hM2
   have hjl:=(List.getElem?_eq_some_iff.mp hj).1
   have es2:(held.take i).flatMap pairsN++(pairsN t).take (j+1)=((held.take i).flatMap pairsN++(pairsN t).take j)++[p]:=by rw[List.take_add_one,hj,Option.toList_some,List.append_assoc]
   have tv:=q0f a1 p
   have tp:=v0l kvs' p ((((((held.take i).flatMap pairsN++(pairsN t).take j)).count p:Nat):Int)+1)
   refine n0f (k:=keyP p) rfl ?_
   rw[tv]
   have pln:=s0e kvs' p ((((((held.take i).flatMap pairsN++(pairsN t).take j)).count p:Nat):Int)+1)
   refine n0f (k:=keyP p) rfl ⟨by unfold dtP;rw[List.length_map];omega,hM2 _ ⟨_,.vl (L2.b0h p),by rw[es2];exact a1.snoc p,by omega,by rw[<- tp];rfl⟩⟩
  ·rintro _ ⟨kvs',s3',a1,a2,rfl⟩
   rw[List.take_length]at a1
   exact hM1 _ ⟨kvs',_,s3',by rw[esn];exact a1,by rw[Nat.succ_mul];omega,rfl⟩
 ·rintro _ ⟨kvs,s2,s3,hk1,hk2,rfl⟩
  rw[List.take_length]at hk1
  exact hM _ ⟨kvs,s2,s3,hk1,by have:held.length*10000<=24*10000:=Nat.mul_le_mul hl (Nat.le_refl _);omega,rfl⟩
 rintro _ ⟨kvs,s2,s3,hk1,hk2,rfl⟩
 have hps:∃p,p∈held.flatMap pairsN:=by
  obtain⟨t,ht,h2⟩:=hex
  obtain⟨p,hp⟩:=List.exists_mem_of_length_pos (i0e h2)
  exact⟨p,List.mem_flatMap.mpr ⟨t,ht,hp⟩⟩
 have hk3:kvs≠[]:=fun z=>by
  obtain⟨p,hp⟩:=hps
  obtain⟨e,he,_⟩:=hk1.2 p hp
  rw[z]at he;cases he
 have ei:(dtP kvs).map z0y=kvs.map fun e=>z0y (keyP e.1,.int e.2):=by unfold dtP;rw[List.map_map];rfl
 refine cutS (fun ρ=>∃c,ρ=[.ow (held.map lstN),.un,s2,.vl (L2.b0h (coF held)),.vl (.int c)]) (fun M hM=>?_) ?_
 ·refine⟨by rw[List.length_map];unfold dtP;rw[List.length_map];omega,?_⟩
  rw[ei]
  refine c0c _ (fun e=>ipD (-e.2,[((e.1.1:Nat):Int),((e.1.2:Nat):Int)])) (by first | rfl | trivial) (fun e acc M3 he hM3=>?_) ?_
  ·exact f1z ⟨by simp,hM3⟩
  ·rw[show(kvs.map fun e=>ipD (-e.2,[((e.1.1:Nat):Int),((e.1.2:Nat):Int)]))=(kvs.map fun e=>(-e.2,[((e.1.1:Nat):Int),((e.1.2:Nat):Int)])).map ipD by rw[List.map_map];rfl]
   refine x0j rfl (fun z=>hk3 (List.map_eq_nil_iff.mp z)) fun i hi hmin=>?_
   rw[List.length_map]at hi
   have gd:∀j,(hj:j<kvs.length)->(kvs.map fun e=>(-e.2,[((e.1.1:Nat):Int),((e.1.2:Nat):Int)])).getD j (0,[])=(-kvs[j].2,[((kvs[j].1.1:Nat):Int),((kvs[j].1.2:Nat):Int)]):=fun j hj=>by
    rw[List.getD_eq_getElem?_getD,List.getElem?_map,List.getElem?_eq_getElem hj];rfl
   have hI:IsCo (held.flatMap pairsN) kvs[i].1:=by
    obtain⟨m1,m2⟩:=hk1.1 _ (List.getElem_mem hi)
    refine⟨m1,fun p' hp'=>?_⟩
    obtain⟨e,he,rfl⟩:=hk1.2 p' hp'
    obtain⟨j,hj,rfl⟩:=List.getElem_of_mem he
    have n2:=(hk1.1 _ (List.getElem_mem hj)).2
    have h:=hmin j (by rw[List.length_map];exact hj)
    rw[gd j hj,gd i hi]at h
    unfold ipL at h
    rw[HT.lexLt_cons]at h
    split at h
    ·rw[HT.lexLt_cons]at h
     split at h
     ·rw[HT.lexLt_cons]at h
      split at h
      ·omega
      ·rw[decide_eq_false_iff_not]at h;omega
     ·rw[decide_eq_false_iff_not]at h;omega
    ·rw[decide_eq_false_iff_not]at h;omega
   rw[gd i hi]
   refine hM _ ⟨-kvs[i].2,?_⟩
   unfold coF
   rw[t0e hI]
   rfl
 rintro _ ⟨c,rfl⟩
 exact hq
theorem o0n (dn:DefN K mg "with_pair" e0m ["things", "pair", "new"])(B:BI mg):OkN P w K mg base 1 "with_pair" ["things", "pair", "new"] (spA K k0t):=by
 refine dn.aok2 (k:=0) o0c (fun j=>j==0||j==1||j==2) [] k0t rfl (fun f cdv A outer s H E hr=>have hu:=f0d hr;⟨_,(a0f (f0a (PW.pt (i0o (a0v (g0u K) (g0g (c0o K) (pv 1) a0h (fun _ _=>rfl)) (pv 0) rfl) (g0c (a0v (g0u K) (g0g (c0o K) (pv 1) a0h (fun _ _=>rfl)) (pv 0) rfl))))
  (a0n (b0t (b0d (j0y K) (e0c ["thing"] [1] rfl (Blk.of (a0i e0m) i0p) (b0u K (pv 0)) (fun _ _ _ _ nd=>(a0t (i:=0) nd rfl (by first | exact Or.inl rfl | exact Or.inr rfl))) (fun _ _ _ _=>(j0n (a0v (h0q K) (pv 0) (pv 1) rfl))) (fun _ _ _ _=>(pv 0))) (f0v (a0b (pv 2) a0e)))))
  c0b)
  (a0n (b0t (pv 0)))),(a0k (d0i (f0i (a0r (a0j (l0o false) (a0j e0h a0c a0g) a0c)) (a0r (a0j (l0o false) (a0j e0h a0c a0g) a0c)))
  (b0g (a0j k0a (b0p (b0i a0c) (a0l rfl) (a0r (a0j (l0o true) a0c a0c)) a0c) (d0y (a0a a0c a0d))))
  b0k)
  (b0g a0c))⟩) ?_
 rintro ss q ⟨t,p,n,rfl,hl,h1,h2⟩
 refine⟨rfl,rfl,?_⟩
 refine l0a (i:=0) (ds:=[nD p.1,nD p.2]) (d:=nD p.1) rfl rfl (t0a (xs:=t) rfl ?_)
 cases c1:t.contains p.1 with
 | false=>exact h2 fun z=>by rw[List.contains_iff_mem.mpr z.1]at c1;cases c1
 | true =>
  refine l0a (i:=1) (ds:=[nD p.1,nD p.2]) (d:=nD p.2) rfl rfl (t0a (xs:=t) rfl ?_)
  cases c2:t.contains p.2 with
  | false=>exact h2 fun z=>by rw[List.contains_iff_mem.mpr z.2]at c2;cases c2
  | true =>
   have hp:p.1∈t/\p.2∈t:=⟨List.contains_iff_mem.mp c1,List.contains_iff_mem.mp c2⟩
   have h3:=h1 hp
   unfold c0e at h3
   rw[if_pos hp]at h3
   refine⟨by rw[a0x];omega,?_⟩
   refine e0t (fun k acc ρ=>acc=a0p ((t.take k).filter fun x=>!([p.1,p.2].contains x))/\ρ=[.vl (lstN t),.vl (L2.b0h p),nv n]) ?_ ?_ ?_ _ ⟨rfl,rfl⟩
   ·rintro k acc ρ _ ⟨_,rfl⟩;first | rfl | trivial
   ·rintro k d acc _ M3 hk ⟨rfl,rfl⟩ hM3
    unfold a0p at hk
    rw[List.getElem?_map]at hk
    obtain⟨x,et,rfl⟩:=Option.map_eq_some_iff.mp hk
    have fs:=j0d (fun x=>!([p.1,p.2].contains x)) (t.take k) x
    rw[show t.take k++[x]=t.take (k+1)by rw[List.take_add_one,et];rfl]at fs
    refine c1g (xs:=[p.1,p.2]) rfl ?_
    cases e:[p.1,p.2].contains x with
    | true=>exact hM3 _ _ ⟨by rw[fs,e];rfl,rfl⟩
    | false=>exact hM3 _ _ ⟨by rw[fs,e];rfl,rfl⟩
   ·rintro acc _ ⟨rfl,rfl⟩
    rw[a0x,List.take_length]
    have fl:=List.length_filter_le (fun x=>!([p.1,p.2].contains x)) t
    refine⟨by simp,by rw[a0x];show _+1<=_;omega,?_⟩
    unfold a0p at h3 ⊢
    rw[List.map_append]at h3
    exact h3
end
def xr (f:Nat->Nat):List Nat->Nat
 | []=>0
 | x::t=>f x ^^^ xr f t
theorem f1j (f:Nat->Nat)(s t:List Nat):xr f (s++t)=xr f s ^^^ xr f t:=by
 induction s with
 | nil=>simp[xr]
 | cons x s ih=>show f x ^^^ xr f (s++t)=(f x ^^^ xr f s) ^^^ xr f t;rw[ih,Nat.xor_assoc]
theorem y0x {f g:Nat->Nat}{t:List Nat}(h:∀x∈t,f x=g x):xr f t=xr g t:=by
 induction t with
 | nil=>rfl
 | cons x t ih=>unfold xr;rw[h x (.head _),ih fun y hy=>h y (.tail _ hy)]
theorem i1f {t:List Nat}{a:Nat}(h:a∉t):(t.filter fun x=>!(x==a))=t:=List.filter_eq_self.mpr fun x hx=>by
 have:x≠a:=fun z=>h (z▸hx)
 simp[this]
theorem b1a (f:Nat->Nat){t:List Nat}(nd:t.Nodup){a:Nat}(h:a∈t):xr f t=f a ^^^ xr f (t.filter fun x=>!(x==a))/\(t.filter fun x=>!(x==a)).length+1=t.length:=by
 induction t with
 | nil=>cases h
 | cons y t ih =>
  have nd':=List.nodup_cons.mp nd
  by_cases e:y=a
  ·subst e
   rw[List.filter_cons]
   simp only[beq_self_eq_true,Bool.not_true,Bool.false_eq_true,if_false]
   rw[i1f nd'.1]
   exact⟨rfl,rfl⟩
  ·have h':a∈t:=by
    rcases List.mem_cons.mp h with z | z
    ·exact(e z.symm).elim
    ·exact z
   obtain⟨i1,i2⟩:=ih nd'.2 h'
   rw[List.filter_cons]
   have:(!(y==a))=true:=by simp[e]
   simp only[this,if_true]
   refine⟨?_,by rw[List.length_cons,List.length_cons];omega⟩
   unfold xr
   rw[i1,<- Nat.xor_assoc,<- Nat.xor_assoc,Nat.xor_comm (f y) (f a)]
theorem e1r (t:List Nat)(a b:Nat):(t.filter fun x=>!([a,b].contains x))=(t.filter fun x=>!(x==a)).filter fun x=>!(x==b):=by
 rw[List.filter_filter]
 refine List.filter_congr fun x _=>?_
 rw[Bool.and_comm]
 have e1:([a,b].contains x)=((x==a)||(x==b)):=by rw[List.contains_cons,List.contains_cons,List.contains_nil,Bool.or_false]
 rw[e1,Bool.not_or]
theorem r0u {f:Nat->Nat}{t:List Nat}{p:Nat×Nat}{n:Nat}(nd:t.Nodup)(hp:p.1≠p.2)(hn:f n=f p.1 ^^^ f p.2)(hb:p.1∈t/\p.2∈t):xr f (c0e t p n)=xr f t/\(c0e t p n).length+1=t.length:=by
 unfold c0e
 rw[if_pos hb,e1r]
 obtain⟨a1,a2⟩:=b1a f nd hb.1
 have nd2:(t.filter fun x=>!(x==p.1)).Nodup:=nd.filter _
 have hb2:p.2∈t.filter fun x=>!(x==p.1):=List.mem_filter.mpr ⟨hb.2,by simp;exact fun z=>hp z.symm⟩
 obtain⟨b1,b2⟩:=b1a f nd2 hb2
 refine⟨?_,by rw[List.length_append,List.length_singleton];omega⟩
 rw[f1j]
 show _ ^^^ (f n ^^^ 0)=_
 rw[Nat.xor_zero,hn,a1,b1,Nat.xor_comm,Nat.xor_assoc]
theorem l0e {t:List Nat}{p:Nat×Nat}{n:Nat}(h:t.Pairwise (· < ·))(hl:∀x∈t,x<n):(c0e t p n).Pairwise (· < ·)/\(∀x∈c0e t p n,x<n+1):=by
 unfold c0e
 split
 ·refine⟨List.pairwise_append.mpr ⟨h.filter _,List.pairwise_singleton _ _,fun a ha b hb=>?_⟩,fun x hx=>?_⟩
  ·rw[List.mem_singleton.mp hb];exact hl a ((List.mem_filter.mp ha).1)
  ·rcases List.mem_append.mp hx with z | z
   ·have:=hl x ((List.mem_filter.mp z).1);omega
   ·rw[List.mem_singleton.mp z];omega
 ·exact⟨h,fun x hx=>by have:=hl x hx;omega⟩
theorem w0m {t:List Nat}{p:Nat×Nat}(h:t.Pairwise (· < ·))(hp:p∈pairsN t):p.1∈t/\p.2∈t/\p.1<p.2:=by
 unfold pairsN at hp
 obtain⟨k,hk,hp⟩:=List.mem_flatMap.mp hp
 obtain⟨y,hy,rfl⟩:=List.mem_map.mp hp
 have lk:=List.mem_range.mp hk
 have e:t.getD k 0=t[k]:=by rw[List.getD_eq_getElem?_getD,List.getElem?_eq_getElem lk];rfl
 obtain⟨j,hj,rfl⟩:=List.getElem_of_mem hy
 rw[List.getElem_drop]
 rw[List.length_drop]at hj
 refine⟨by show t.getD k 0∈t;rw[e];exact List.getElem_mem lk,List.getElem_mem _,?_⟩
 show t.getD k 0<_
 rw[e]
 exact(List.pairwise_iff_getElem.mp h) k (k+1+j) lk (by omega) (by omega)
def XF (K:PySem.W.Frag)(mg:Str->Option Value):Prop:=∃C_TooMany C_JoinError C_NoFit C_NoWidth C_NoRow C_NoName C_Nought C_Bare C_Loose C_Leans C_NoAnswer C_NoText:Addr,mg "TooMany" = some (.ref C_TooMany)/\mg "JoinError" = some (.ref C_JoinError)/\mg "NoFit" = some (.ref C_NoFit)/\mg "NoWidth" = some (.ref C_NoWidth)/\mg "NoRow" = some (.ref C_NoRow)/\mg "NoName" = some (.ref C_NoName)/\mg "Nought" = some (.ref C_Nought)/\mg "Bare" = some (.ref C_Bare)/\mg "Loose" = some (.ref C_Loose)/\mg "Leans" = some (.ref C_Leans)/\mg "NoAnswer" = some (.ref C_NoAnswer)/\mg "NoText" = some (.ref C_NoText)/\mg "ValueError" = none/\PySem.W.excIn K C_TooMany bmV "ValueError.__new__" = true/\k0k K C_JoinError=true/\PySem.W.subIn K (.ref C_TooMany) (.ref C_JoinError)=some true/\ExIs K C_TooMany/\PySem.W.kitOne K (.ref C_TooMany) (.ref C_NoFit)=some false/\PySem.W.kitOne K (.ref C_TooMany) (.ref C_TooMany)=some true/\PySem.W.kitOne K (.ref C_TooMany) (.ref C_NoWidth)=some false/\PySem.W.kitOne K (.ref C_TooMany) (.type "ValueError")=some true/\PySem.W.kitOne K (.ref C_TooMany) (.ref C_NoRow)=some false/\PySem.W.kitOne K (.ref C_TooMany) (.ref C_NoName)=some false/\PySem.W.kitOne K (.ref C_TooMany) (.ref C_Nought)=some false/\PySem.W.kitOne K (.ref C_TooMany) (.ref C_Bare)=some false/\PySem.W.kitOne K (.ref C_TooMany) (.ref C_Loose)=some false/\PySem.W.kitOne K (.ref C_TooMany) (.ref C_Leans)=some false/\PySem.W.kitOne K (.ref C_TooMany) (.ref C_NoAnswer)=some false/\PySem.W.kitOne K (.ref C_TooMany) (.ref C_NoText)=some false
theorem XF.mk {K:PySem.W.Frag}{mg:Str->Option Value}{h:Heap}{C_TooMany C_JoinError C_NoFit C_NoWidth C_NoRow C_NoName C_Nought C_Bare C_Loose C_Leans C_NoAnswer C_NoText:Addr}(KX:K.In h)(G:h.Ns mainGlobals mg)(f0:PySem.W.nsIn K mainGlobals "TooMany" = some (some (.ref C_TooMany)))(f1:PySem.W.nsIn K mainGlobals "JoinError" = some (some (.ref C_JoinError)))(f2:PySem.W.nsIn K mainGlobals "NoFit" = some (some (.ref C_NoFit)))(f3:PySem.W.nsIn K mainGlobals "NoWidth" = some (some (.ref C_NoWidth)))(f4:PySem.W.nsIn K mainGlobals "NoRow" = some (some (.ref C_NoRow)))(f5:PySem.W.nsIn K mainGlobals "NoName" = some (some (.ref C_NoName)))(f6:PySem.W.nsIn K mainGlobals "Nought" = some (some (.ref C_Nought)))(f7:PySem.W.nsIn K mainGlobals "Bare" = some (some (.ref C_Bare)))(f8:PySem.W.nsIn K mainGlobals "Loose" = some (some (.ref C_Loose)))(f9:PySem.W.nsIn K mainGlobals "Leans" = some (some (.ref C_Leans)))(f10:PySem.W.nsIn K mainGlobals "NoAnswer" = some (some (.ref C_NoAnswer)))(f11:PySem.W.nsIn K mainGlobals "NoText" = some (some (.ref C_NoText)))(f12:PySem.W.nsIn K mainGlobals "ValueError" = some none)(f13:PySem.W.excIn K C_TooMany bmV "ValueError.__new__" = true)(f14:PySem.W.excIn K C_JoinError bmV "ValueError.__new__" = true)(f15:PySem.W.subIn K (.ref C_TooMany) (.ref C_JoinError)=some true)(f16_0:PySem.W.findIn K (.ref C_TooMany) "__getattribute__" = some (some (.builtin "BaseException.__getattribute__")))(f16_1:PySem.W.findIn K (.ref C_TooMany) "__getattr__" = some none)(f16_2:PySem.W.hasDictIn K C_TooMany=true)(f16_3:PySem.W.findIn K (.ref C_TooMany) "__class__" = some (some (.builtin "object.__class__")))(f16_4:PySem.W.specialIn K (.builtin "object.__class__") "__get__" = some (some (.builtin "getset_descriptor.__get__")))(f16_5:PySem.W.takesIn K (.builtin "object.__class__")=some true)(f16_6:PySem.W.mroIn K C_TooMany (.type "object")=some true)(f16_7:PySem.W.subIn K (.ref C_TooMany) (.type "BaseException")=some true)(f17:PySem.W.kitOne K (.ref C_TooMany) (.ref C_NoFit)=some false)(f18:PySem.W.kitOne K (.ref C_TooMany) (.ref C_TooMany)=some true)(f19:PySem.W.kitOne K (.ref C_TooMany) (.ref C_NoWidth)=some false)(f20:PySem.W.kitOne K (.ref C_TooMany) (.type "ValueError")=some true)(f21:PySem.W.kitOne K (.ref C_TooMany) (.ref C_NoRow)=some false)(f22:PySem.W.kitOne K (.ref C_TooMany) (.ref C_NoName)=some false)(f23:PySem.W.kitOne K (.ref C_TooMany) (.ref C_Nought)=some false)(f24:PySem.W.kitOne K (.ref C_TooMany) (.ref C_Bare)=some false)(f25:PySem.W.kitOne K (.ref C_TooMany) (.ref C_Loose)=some false)(f26:PySem.W.kitOne K (.ref C_TooMany) (.ref C_Leans)=some false)(f27:PySem.W.kitOne K (.ref C_TooMany) (.ref C_NoAnswer)=some false)(f28:PySem.W.kitOne K (.ref C_TooMany) (.ref C_NoText)=some false):XF K mg:=⟨C_TooMany,C_JoinError,C_NoFit,C_NoWidth,C_NoRow,C_NoName,C_Nought,C_Bare,C_Loose,C_Leans,C_NoAnswer,C_NoText,PySem.W.mg_of KX G f0,PySem.W.mg_of KX G f1,PySem.W.mg_of KX G f2,PySem.W.mg_of KX G f3,PySem.W.mg_of KX G f4,PySem.W.mg_of KX G f5,PySem.W.mg_of KX G f6,PySem.W.mg_of KX G f7,PySem.W.mg_of KX G f8,PySem.W.mg_of KX G f9,PySem.W.mg_of KX G f10,PySem.W.mg_of KX G f11,PySem.W.mg_none_of KX G f12,f13,x0s f14,f15,ExIs.of f16_0 f16_1 f16_2 f16_3 f16_4 f16_5 f16_6 f16_7,f17,f18,f19,f20,f21,f22,f23,f24,f25,f26,f27,f28⟩
def e0w (m:Nat)(rs:List Nat):D:=.tup [nD m,.tup (a0p rs)]
def n0r:ASp:=fun ss q=>∃r:Nat,ss=[nv r]/\r<4096/\q (.f (a0p (b0q r))) [nv r]
def a1x:ASp:=fun ss q=>∃c:Nat,ss=[nv c]/\c<=132/\q (.d .non) [nv c]
def y0r:ASp:=fun ss q=>∃c:Nat,ss=[nv c]/\132<c/\q (.d .non) [nv c]
def cost (rows:List Nat):Nat:=(rows.map fun r=>(b0q r).length - 1).sum
def e0u (m:Nat)(rows:List Nat):Prop:=1<=m/\m<=12/\rows.length<=24/\∀r∈rows,1<=r/\r<2^m
theorem r0j {r:Nat}(h:1<=r):0<(b0q r).length:=by
 have:r.log2∈b0q r:=by
  unfold b0q
  rw[List.mem_filter,List.mem_range]
  have h0:r≠0:=by omega
  refine⟨by unfold f0s;rw[if_neg h0];omega,?_⟩
  exact Nat.testBit_log2 h0
 exact List.length_pos_of_mem this
theorem c1f {r:Nat}(h:r<4096):(b0q r).length<=12:=by
 unfold b0q
 have:=List.length_filter_le r.testBit (List.range (f0s r))
 rw[List.length_range]at this
 have hb:f0s r<=12:=L2.f1a (m:=12) (by omega)
 omega
theorem e0u.lt {m:Nat}{rows:List Nat}(h:e0u m rows):∀r∈rows,1<=r/\r<4096:=fun r hr=>by
 obtain⟨_,h2,_,h4⟩:=h
 have:=Nat.pow_le_pow_right (n:=2) (by decide) h2
 have:=h4 r hr
 omega
theorem r0y {rows:List Nat}(h:∀r∈rows,1<=r/\r<4096):(rows.map fun r=>(((b0q r).length:Nat):Int) - 1).sum=((cost rows:Nat):Int):=by
 induction rows with
 | nil=>rfl
 | cons r rows ih =>
  have h1:=r0j (h r List.mem_cons_self).1
  have h2:cost (r::rows)=((b0q r).length - 1)+cost rows:=by unfold cost;simp
  rw[List.map_cons,List.sum_cons,ih fun x hx=>h x (List.mem_cons_of_mem _ hx),h2]
  omega
def y0u (C:Addr):ASp:=fun ss q=>ss=[.ex C none,nv 1]/\q (.d (.bl true)) [.ex C none,nv 1]
theorem gE0 {a:Nat}{b:Int}{c:Bool}{ρ:En}{q:Ko}(h:decide ((a:Int)=b)=c)(hq:q (.d (.bl c)) ρ):gEq false (.d (.int (a:Int))) (.d (.int b)) ρ q:=f0x rfl rfl (by simp[D.depth]) (b:=c) (by unfold eqD;exact h) (by exact hq)
section
variable {P:Program}{w:World}{K:PySem.W.Frag}{mg:Str->Option Value}{base:Heap}
theorem o0r (dn:DefN K mg "givens_of" e0n ["row"])(B:BI mg):OkN P w K mg base 1 "givens_of" ["row"] (spA K n0r):=by
 refine dn.aok2 (k:=0) o0e (fun j=>j==0) [] n0r rfl (fun f cdv A outer s H E hr=>have hu:=f0d hr;⟨_,(a0n (b0t (e0c ["given"] [0] rfl (Blk.of (a0i e0n) i0q) (d0w rfl B.range_ (a0b (d1o K PySem.F.plainAttrs_int PySem.F.slot_int_bit_length PySem.F.type_int_bit_length d1z (pv 0)) a0e)) (fun _ _ _ _ nd=>(a0t (i:=0) nd rfl (by first | exact Or.inl rfl | exact Or.inr rfl))) (fun _ _ _ _=>(j0n (w0f K (b0d s0m (b0d w0n (pv 1) (pv 0)) a0h) (fun _=>rfl)))) (fun _ _ _ _=>(pv 0))))),(b0g (b0p (d0r (a0a (z0e a0c) a0d)) (a0l rfl) (z0b (a0j b0a (a0j f0o a0c a0c) a0g)) a0c))⟩) ?_
 rintro ss q ⟨r,rfl,hr,hq⟩
 refine⟨rfl,rfl,?_⟩
 have hb:f0s r<=12:=by
  unfold f0s
  split
  ·omega
  ·rename_i h0
   have:=(Nat.log2_lt h0).mpr (show r<2^12 by omega)
   omega
 have eb:((Builtin.Int.intBits (r:Int):Nat):Int)=((f0s r:Nat):Int):=by rw[a1r]
 refine⟨⟨by omega,by omega⟩,by rw[e0v];omega,?_⟩
 refine e0t (fun k acc ρ=>acc=a0p ((List.range k).filter r.testBit)/\ρ=[nv r]) (fun _ _ _ _ _=>trivial) ?_ ?_ _ ⟨rfl,rfl⟩
 ·rintro k d acc _ M hk ⟨rfl,rfl⟩ hM
  obtain⟨lt,rfl⟩:=j0a hk
  rw[Int.zero_add]
  refine⟨Int.natCast_nonneg _,?_⟩
  show if(Builtin.bitAnd ((r:Int) / 2^((k:Int).toNat)) 1 != 0)=true then M (a0p ((List.range k).filter r.testBit)++[nD k]) [nv r]else M (a0p ((List.range k).filter r.testBit)) [nv r]
  rw[y0m]
  cases e:r.testBit k with
  | true=>exact hM _ _ ⟨by rw[List.range_succ,List.filter_append,<- i0i];simp[e],rfl⟩
  | false=>exact hM _ _ ⟨by rw[List.range_succ,List.filter_append];simp[e],rfl⟩
 rintro acc _ ⟨rfl,rfl⟩
 rw[e0v,eb,Int.toNat_natCast]
 exact hq
theorem k0b (dn:DefN K mg "refuse_joins" c0u ["count"])(B:BI mg)(c_MOST_JOINS:∃u,mg "MOST_JOINS" = some u/\RelV (.int 132) u):OkN P w K mg base 1 "refuse_joins" ["count"] (spA K a1x):=by
 refine dn.aok2 (k:=0) g0a (fun j=>j==0) [] a1x rfl (fun f cdv A outer s H E hr=>have hu:=f0d hr;⟨_,(a0n (f0a (a0v i0f (pv 0) (d1m c_MOST_JOINS rfl) (b0m _))
  (a0n z0s)
  c0b)),(d0i (a0r (a0j d0m a0c a0g))
  n0z
  b0k)⟩) ?_
 rintro ss q ⟨c,rfl,h,hq⟩
 refine⟨rfl,rfl,?_⟩
 exact ite2 (fun z=>(by rw[decide_eq_true_eq]at z;omega:False).elim) fun _=>hq
theorem f0c {C_TooMany:Addr}(m_TooMany:mg "TooMany" = some (.ref C_TooMany))(e_TooMany:PySem.W.excIn K C_TooMany bmV "ValueError.__new__" = true)(dn:DefN K mg "refuse_joins" c0u ["count"])(B:BI mg)(c_MOST_JOINS:∃u,mg "MOST_JOINS" = some u/\RelV (.int 132) u):OkX P w K mg base 1 "refuse_joins" ["count"] C_TooMany none (spA K y0r):=by
 refine dn.aokX (k:=0) g0a (fun j=>j==0) [] y0r C_TooMany none rfl (fun f cdv A outer s H E hr=>have hu:=f0d hr;⟨_,(c0v (g1t (a0v i0f (pv 0) (d1m c_MOST_JOINS rfl) (b0m _))
  (c0v (t0v tie1 rfl m_TooMany e_TooMany (w0j (q0n e0q (q0n (g1z (d1m c_MOST_JOINS rfl)) (q0n e0q g1u)))))
  j0b)
  j0b)
  j0b),(a0k (d0i (a0r (a0j d0m a0c a0g))
  (a0k (b0g (z0c (t0r (j0i m0f (j0i (c1z a0g) (j0i m0f z0f))))))
  b0k)
  b0k)
  b0k)⟩) ?_
 rintro ss q ⟨c,rfl,h,hq⟩
 refine⟨rfl,rfl,?_⟩
 exact ite2 (fun _=>⟨by decide +kernel,by decide +kernel,by decide +kernel,by decide +kernel,by decide +kernel,⟨_,rfl⟩,hq⟩) fun z=>(z (by rw[decide_eq_true_eq];omega)).elim
end
def rwA (m:Nat)(js:List (Nat×Nat)):List Nat:=js.foldl i0z (m0r m)
def fR (m:Nat)(js:List (Nat×Nat))(x:Nat):Nat:=(rwA m js).getD x 0
structure PIv (m:Nat)(rows:List Nat)(js:List (Nat×Nat))(held:List (List Nat)):Prop where
 len:held.length=rows.length
 ok:∀k p,js[k]? = some p->p.1<p.2/\p.2<m+k
 rise:∀t∈held,t.Pairwise (· < ·)
 lt:∀t∈held,∀x∈t,x<m+js.length
 som:∀t∈held,1<=t.length/\t.length<=12
 mks:held.map (xr (fR m js))=rows
 cst:(held.map fun t=>t.length - 1).sum+js.length<=cost rows
theorem v0y (m:Nat)(js:List (Nat×Nat)):(rwA m js).length=m+js.length:=by unfold rwA;rw[a1g,d1s]
theorem s0b (m:Nat)(js:List (Nat×Nat))(p:Nat×Nat):rwA m (js++[p])=rwA m js++[fR m js p.1 ^^^ fR m js p.2]:=by unfold rwA;rw[List.foldl_append];rfl
theorem x0o {m:Nat}{js:List (Nat×Nat)}{p:Nat×Nat}{x:Nat}(h:x<m+js.length):fR m (js++[p]) x=fR m js x:=by
 unfold fR
 rw[s0b,List.getD_eq_getElem?_getD,List.getElem?_append_left (by rw[v0y];exact h),List.getD_eq_getElem?_getD]
theorem i1g (m:Nat)(js:List (Nat×Nat))(p:Nat×Nat):fR m (js++[p]) (m+js.length)=fR m js p.1 ^^^ fR m js p.2:=by
 have e:fR m (js++[p]) (m+js.length)=(rwA m (js++[p])).getD (rwA m js).length 0:=by unfold fR;rw[v0y]
 rw[e,s0b,List.getD_eq_getElem?_getD,List.getElem?_append_right (Nat.le_refl _),Nat.sub_self];rfl
theorem l0j {t0:List Nat}{f g:List Nat->Nat}:∀ {held:List (List Nat)},(∀t∈held,g t<=f t)->t0∈held->g t0+1<=f t0->(held.map g).sum+1<=(held.map f).sum
 | [],_,h,_=>by cases h
 | t::held,h,hm,h0=>by
  have le:∀ {held:List (List Nat)},(∀t∈held,g t<=f t)->(held.map g).sum<=(held.map f).sum:=by
   intro held
   induction held with
   | nil=>intro _;simp
   | cons x xs ih=>intro h;rw[List.map_cons,List.map_cons,List.sum_cons,List.sum_cons];have:=h x (.head _);have:=ih fun t ht=>h t (.tail _ ht);omega
  rw[List.map_cons,List.map_cons,List.sum_cons,List.sum_cons]
  rcases List.mem_cons.mp hm with rfl | hm
  ·have:=le fun t ht=>h t (.tail _ ht);omega
  ·have:=l0j (fun t ht=>h t (.tail _ ht)) hm h0
   have:=h t (.head _)
   omega
theorem PIv.next {m:Nat}{rows:List Nat}{js:List (Nat×Nat)}{held:List (List Nat)}(I:PIv m rows js held){p:Nat×Nat}{t0:List Nat}(h0:t0∈held)(hp:p∈pairsN t0) :
  PIv m rows (js++[p]) (held.map fun t=>c0e t p (m+js.length))/\((held.map fun t=>c0e t p (m+js.length)).map fun t=>t.length - 1).sum+1<=(held.map fun t=>t.length - 1).sum:=by
 obtain⟨p1,p2,p3⟩:=w0m (I.rise t0 h0) hp
 have l1:=I.lt t0 h0 _ p1
 have l2:=I.lt t0 h0 _ p2
 have hn:fR m (js++[p]) (m+js.length)=fR m (js++[p]) p.1 ^^^ fR m (js++[p]) p.2:=by rw[i1g,x0o l1,x0o l2]
 have nd:∀t∈held,t.Nodup:=fun t ht=>(I.rise t ht).imp fun h=>Nat.ne_of_lt h
 have wl:∀t∈held,(c0e t p (m+js.length)).length<=t.length/\xr (fR m (js++[p])) (c0e t p (m+js.length))=xr (fR m js) t/\1<=(c0e t p (m+js.length)).length:=fun t ht=>by
  have ec:xr (fR m (js++[p])) t=xr (fR m js) t:=y0x fun x hx=>x0o (I.lt t ht x hx)
  have s1:=(I.som t ht).1
  by_cases hb:p.1∈t/\p.2∈t
  ·obtain⟨a,b⟩:=r0u (nd t ht) (Nat.ne_of_lt p3) hn hb
   refine⟨by omega,by rw[a,ec],?_⟩
   unfold c0e;rw[if_pos hb,List.length_append];simp
  ·have e:c0e t p (m+js.length)=t:=by unfold c0e;rw[if_neg hb]
   rw[e];exact⟨Nat.le_refl _,ec,s1⟩
 have w0:(c0e t0 p (m+js.length)).length+1=t0.length:=(r0u (nd t0 h0) (Nat.ne_of_lt p3) hn ⟨p1,p2⟩).2
 have dec:((held.map fun t=>c0e t p (m+js.length)).map fun t=>t.length - 1).sum+1<=(held.map fun t=>t.length - 1).sum:=by
  rw[List.map_map]
  refine l0j (t0:=t0) (fun t ht=>?_) h0 ?_
  ·have:=(wl t ht).1;simp only[Function.comp];omega
  ·have:=(wl t0 h0).2.2;simp only[Function.comp];omega
 refine⟨⟨by rw[List.length_map];exact I.len,fun k q hk=>?_,fun t ht=>?_,fun t ht x hx=>?_,fun t ht=>?_,?_,?_⟩,dec⟩
 ·by_cases lt:k<js.length
  ·rw[List.getElem?_append_left lt]at hk;exact I.ok k q hk
  ·rw[List.getElem?_append_right (by omega)]at hk
   have hk':=(List.getElem?_eq_some_iff.mp hk).1
   have e:k=js.length:=by simp at hk';omega
   subst e
   rw[Nat.sub_self]at hk
   cases hk
   exact⟨p3,l2⟩
 ·obtain⟨t',ht',rfl⟩:=List.mem_map.mp ht
  exact(l0e (I.rise t' ht') (I.lt t' ht')).1
 ·obtain⟨t',ht',rfl⟩:=List.mem_map.mp ht
  have:=(l0e (p:=p) (I.rise t' ht') (I.lt t' ht')).2 x hx
  rw[List.length_append,List.length_singleton];omega
 ·obtain⟨t',ht',rfl⟩:=List.mem_map.mp ht
  obtain⟨a,_,c⟩:=wl t' ht'
  have:=(I.som t' ht').2
  exact⟨c,by omega⟩
 ·rw[List.map_map,<- I.mks]
  exact List.map_congr_left fun t ht=>(wl t ht).2.1
 ·have:=I.cst
  rw[List.length_append,List.length_singleton]
  omega
theorem u0x {f:Nat->Nat}{j:Nat}:∀ {t:List Nat},t.Nodup->(∀x∈t,f x=2^x)->(xr f t).testBit j=decide (j∈t)
 | [],_,_=>by simp[xr]
 | y::t,nd,h=>by
  have nd':=List.nodup_cons.mp nd
  have ih:=u0x (j:=j) nd'.2 fun x hx=>h x (.tail _ hx)
  unfold xr
  rw[Nat.testBit_xor,ih,h y (.head _),Nat.testBit_two_pow]
  by_cases e:y=j
  ·subst e
   simp[nd'.1]
  ·have e':¬j=y:=fun z=>e z.symm
   simp[e,e']
theorem r0f {r x:Nat}:x∈b0q r↔r.testBit x=true:=by
 unfold b0q
 rw[List.mem_filter,List.mem_range]
 refine⟨fun h=>h.2,fun h=>⟨?_,h⟩⟩
 apply Classical.byContradiction
 intro z
 have h0:r≠0:=fun e=>by subst e;simp at h
 have hb:f0s r=r.log2+1:=by unfold f0s;rw[if_neg h0]
 have:r<2^x:=Nat.lt_of_lt_of_le Nat.lt_log2_self (Nat.pow_le_pow_right (by decide) (by omega))
 rw[Nat.testBit_lt_two_pow this]at h
 cases h
theorem s0x (r:Nat):(b0q r).Pairwise (· < ·):=by unfold b0q;exact(List.pairwise_lt_range).filter _
theorem PIv.start {m:Nat}{rows:List Nat}(hR:e0u m rows):PIv m rows [] (rows.map b0q):=by
 obtain⟨m1,m2,rl,hr⟩:=hR
 have p12:2^m<=4096:=Nat.pow_le_pow_right (n:=2) (by decide) m2
 have ltm:∀r∈rows,∀x∈b0q r,x<m:=fun r h x hx=>by
  apply Classical.byContradiction
  intro z
  have:r<2^x:=Nat.lt_of_lt_of_le (hr r h).2 (Nat.pow_le_pow_right (by decide) (by omega))
  have h1:=r0f.mp hx
  rw[Nat.testBit_lt_two_pow this]at h1
  cases h1
 refine⟨by rw[List.length_map],(fun k p hk=>by cases hk),fun t ht=>?_,fun t ht x hx=>?_,fun t ht=>?_,?_,?_⟩
 ·obtain⟨r,_,rfl⟩:=List.mem_map.mp ht;exact s0x r
 ·obtain⟨r,h,rfl⟩:=List.mem_map.mp ht;exact ltm r h x hx
 ·obtain⟨r,h,rfl⟩:=List.mem_map.mp ht
  exact⟨r0j (hr r h).1,c1f (by have:=(hr r h).2;omega)⟩
 ·rw[List.map_map]
  conv=>rhs;rw[<- List.map_id rows]
  refine List.map_congr_left fun r h=>?_
  apply Nat.eq_of_testBit_eq
  intro j
  simp only[Function.comp,id]
  rw[u0x ((s0x r).imp fun h=>Nat.ne_of_lt h) (fun x hx=>?_)]
  ·by_cases e:r.testBit j=true
   ·rw[e];exact decide_eq_true (r0f.mpr e)
   ·rw[Bool.not_eq_true]at e
    rw[e];exact decide_eq_false fun z=>by rw[r0f.mp z]at e;cases e
  ·have lt:=ltm r h x hx
   unfold fR rwA m0r
   show((List.range m).map _).getD x 0=_
   rw[List.getD_eq_getElem?_getD,List.getElem?_map,List.getElem?_range lt]
   show 1 <<< x=_
   rw[Nat.shiftLeft_eq,Nat.one_mul]
 ·rw[List.map_map];exact Nat.le_refl _
structure PS where
 js:List (Nat×Nat)
 held:List (List Nat)
def c0p (S:PS):Prop:=∀t∈S.held,t.length<=1
open Classical in
noncomputable def e0a (m:Nat)(S:PS):PS:=if c0p S then S else⟨S.js++[coF S.held],S.held.map fun t=>c0e t (coF S.held) (m+S.js.length)⟩
noncomputable def runP (m:Nat)(rows:List Nat):Nat->PS
 | 0=>⟨[],rows.map b0q⟩
 | n+1=>e0a m (runP m rows n)
noncomputable def g0i (m:Nat)(rows:List Nat):Net:=⟨m,(runP m rows 132).js,(runP m rows 132).held.map fun t=>t.getD 0 0⟩
theorem t0f {held:List (List Nat)}(h:∃t∈held,2<=t.length):∃t∈held,coF held∈pairsN t:=by
 obtain⟨t,ht,h2⟩:=h
 obtain⟨p,hp⟩:=List.exists_mem_of_length_pos (i0e h2)
 have hne:held.flatMap pairsN≠[]:=fun z=>by
  have:p∈held.flatMap pairsN:=List.mem_flatMap.mpr ⟨t,ht,hp⟩
  rw[z]at this;cases this
 obtain⟨c,hc⟩:=e1i hne
 unfold coF
 rw[t0e hc]
 exact List.mem_flatMap.mp hc.1
theorem m0u {S:PS}(h:¬c0p S):∃t∈S.held,2<=t.length:=by
 apply Classical.byContradiction
 intro z
 exact h fun t ht=>by
  apply Classical.byContradiction
  intro y
  exact z ⟨t,ht,by omega⟩
theorem PIv.run {m:Nat}{rows:List Nat}(hR:e0u m rows):∀n,PIv m rows (runP m rows n).js (runP m rows n).held
 | 0=>PIv.start hR
 | n+1=>by
  have ih:=PIv.run hR n
  show PIv m rows (e0a m (runP m rows n)).js (e0a m (runP m rows n)).held
  unfold e0a
  split
  ·exact ih
  ·rename_i h
   obtain⟨t,ht,hp⟩:=t0f (m0u h)
   exact(ih.next ht hp).1
theorem e0p {m:Nat}{rows:List Nat}{n:Nat}(h:c0p (runP m rows n)):∀k,runP m rows (n+k)=runP m rows n
 | 0=>rfl
 | k+1=>by
  show e0a m (runP m rows (n+k))=_
  rw[e0p h k]
  unfold e0a;rw[if_pos h]
theorem m0l (m:Nat)(rows:List Nat):∀n,c0p (runP m rows n)∨(runP m rows n).js.length=n
 | 0=>.inr rfl
 | n+1=>by
  by_cases h:c0p (runP m rows n)
  ·left
   have:=e0p h 1
   rw[this];exact h
  ·right
   have ih:=(m0l m rows n).resolve_left h
   show(e0a m (runP m rows n)).js.length=_
   unfold e0a
   rw[if_neg h]
   show((runP m rows n).js++[_]).length=_
   rw[List.length_append,ih];rfl
theorem o0f {m:Nat}{rows:List Nat}(hs:c0p (runP m rows 132)){n:Nat}(h:c0p (runP m rows n)):runP m rows n=runP m rows 132:=by
 rcases Nat.le_total n 132 with l | l
 ·have:=e0p h (132 - n)
  rw[show n+(132 - n)=132 by omega]at this
  exact this.symm
 ·have:=e0p hs (n - 132)
  rw[show 132+(n - 132)=n by omega]at this
  exact this
theorem v0z {m:Nat}{rows:List Nat}{n:Nat}(hn:n<=132)(hs:¬c0p (runP m rows 132)):¬c0p (runP m rows n)/\(runP m rows n).js.length=n:=by
 have h:¬c0p (runP m rows n):=fun z=>hs (by
  have:=e0p z (132 - n)
  rw[show n+(132 - n)=132 by omega]at this
  rw[this];exact z)
 exact⟨h,(m0l m rows n).resolve_left h⟩
theorem s0c {m:Nat}{rows:List Nat}{n:Nat}(hs:c0p (runP m rows 132))(h:¬c0p (runP m rows n)):n<132/\(runP m rows n).js.length=n:=by
 refine⟨?_,(m0l m rows n).resolve_left h⟩
 rcases Nat.lt_or_ge n 132 with g | g
 ·exact g
 ·exfalso
  refine h ?_
  have:=e0p hs (n - 132)
  rw[show 132+(n - 132)=n by omega]at this
  rw[this];exact hs
theorem z0m {m:Nat}{rows:List Nat}:(runP m rows 132).js.length<=132:=by
 have go:∀n,(runP m rows n).js.length<=n:=by
  intro n
  induction n with
  | zero=>exact Nat.le_refl _
  | succ n ih =>
   show(e0a m (runP m rows n)).js.length<=_
   unfold e0a
   split
   ·omega
   ·show((runP m rows n).js++[_]).length<=_
    rw[List.length_append,List.length_singleton];omega
 exact go 132
def t0l:ASp:=fun ss q=>∃(m:Nat) (rows:List Nat),ss=[.vl (e0w m rows)]/\e0u m rows/\c0p (runP m rows 132)/\q (.d (netD (g0i m rows))) [.vl (e0w m rows)]
def r0t:ASp:=fun ss q=>∃(m:Nat) (rows:List Nat),ss=[.vl (e0w m rows)]/\e0u m rows/\¬c0p (runP m rows 132)/\q (.d .non) [.vl (e0w m rows)]
section
variable {P:Program}{w:World}{K:PySem.W.Frag}{mg:Str->Option Value}{base:Heap}
theorem o0o (dn:DefN K mg "pairs_net" b0n ["wish"])(B:BI mg)(g_givens_of:OkN P w K mg base 1 "givens_of" ["row"] (spA K n0r))(g_refuse_joins:OkN P w K mg base 1 "refuse_joins" ["count"] (spA K a1x))(g_commonest:OkN P w K mg base 2 "commonest" ["held"] (spA K n0s))(g_with_pair:OkN P w K mg base 1 "with_pair" ["things", "pair", "new"] (spA K k0t)):OkN P w K mg base 3 "pairs_net" ["wish"] (spA K t0l):=by
 refine dn.aok2 (k:=2) a0z (fun j=>j==0) [.un,.un,.un,.un,.un] t0l rfl (fun f cdv A outer s H E hr=>have hu:=f0d hr;⟨_,(a0f (s0h (pv 0) (i0d K (n:=2) rfl (c0y (a0t (i:=1) a0z.nd rfl (by first | exact Or.inl rfl | exact Or.inr rfl)) (c0y (a0t (i:=2) a0z.nd rfl (by first | exact Or.inl rfl | exact Or.inr rfl)) i0c))))
  (a0f (b0c (i:=3) a0z.nd rfl (by first | exact Or.inl rfl | exact Or.inr rfl) (f0v a0e))
  (a0f (j0q (i:=4) ["row"] [] a0z.nd rfl (by first | exact Or.inl rfl | exact Or.inr rfl) rfl (Blk.of (a0i b0n) c0d) (b0u K (pv 2)) (fun _ _ _ _ nd=>(a0t (i:=0) nd rfl (by first | exact Or.inl rfl | exact Or.inr rfl))) (fun _ _ _ _=>c0r) (fun _ _ _ _=>(c0f g_givens_of (hr.mono (by decide)) (a0b (pv 0) a0e))))
  (a0f (s0g PassesOwn.never (h0o (a0m (p0r K rfl) rfl B.any_ c1l (a0b (e0c ["things"] [] rfl (Blk.of (a0i b0n) c0d) (b0u K (pv 4)) (fun _ _ _ _ nd=>(a0t (i:=0) nd rfl (by first | exact Or.inl rfl | exact Or.inr rfl))) (fun _ _ _ _=>c0r) (fun _ _ _ _=>(j0t i0f (a0m (b0e K) rfl B.len_ d0d (a0b (pv 0) a0e)) a0h (b0m _)))) a0e)))
  (a0f (h0d (c0f g_refuse_joins (hr.mono (by decide)) (a0b (b0d c0w (a0m (b0e K) rfl B.len_ d0d (a0b (pv 3) a0e)) a0h) a0e)))
  (a0f (b0c (i:=5) a0z.nd rfl (by first | exact Or.inl rfl | exact Or.inr rfl) (c0f g_commonest (hr.mono (by decide)) (a0b (pv 4) a0e)))
  (a0f (j0q (i:=4) ["things"] [5,1,3] a0z.nd rfl (by first | exact Or.inl rfl | exact Or.inr rfl) rfl (Blk.of (a0i b0n) c0d) (b0u K (pv 4)) (fun _ _ _ _ nd=>(a0t (i:=0) nd rfl (by first | exact Or.inl rfl | exact Or.inr rfl))) (fun _ _ _ _=>c0r) (fun _ _ _ _=>(c0f g_with_pair (hr.mono (by decide)) (a0b (pv 0) (a0b (pv 1) (a0b (b0d c0w (pv 2) (a0m (b0e K) rfl B.len_ d0d (a0b (pv 3) a0e))) a0e))))))
  (a0n (h0d (l0l K PySem.F.plainAttrs_list PySem.F.slot_list_append PySem.F.type_list_append g0k (pv 3) (a0b (pv 5) a0e))))))))
  (a0n (b0t (d0j (a0b (pv 1) (a0b (e0r (d0o K) rfl B.tuple_ d0q (a0b (pv 3) a0e)) (a0b (e0r (d0o K) rfl B.tuple_ d0q (a0b (e0c ["things"] [] rfl (Blk.of (a0i b0n) c0d) (b0u K (pv 4)) (fun _ _ _ _ nd=>(a0t (i:=0) nd rfl (by first | exact Or.inl rfl | exact Or.inr rfl))) (fun _ _ _ _=>c0r) (fun _ _ _ _=>(g0g (c0o K) (pv 0) a0h (fun _ _=>rfl)))) a0e)) a0e)))))))))),(a0k (m0h a0c (g0n (b0v (a0l rfl) (b0v (a0l rfl) e0y (fun _ _ _=>e0f)) (fun _ _ _=>e0f))))
  (a0k (a0u (d0y a0d) rfl)
  (a0k (g0o (b0p (b0i a0c) (a0l rfl) b0y (a0q (a0a a0c a0d))) rfl)
  (a0k (j0k (g0z (b0j t0h (a0a (b0p (b0i a0c) (a0l rfl) b0y (a0j d0m (b0j b0w (a0a a0c a0d)) a0g)) a0d)))
  (a0k (f0k (a0q (a0a (a0j b0a (b0j b0w (a0a a0c a0d)) a0g) a0d)))
  (a0k (a0u (a0q (a0a a0c a0d)) rfl)
  (a0k (g0o (b0p (b0i a0c) (a0l rfl) b0y (a0q (a0a a0c (a0a a0c (a0a (a0j b0a a0c (b0j b0w (a0a a0c a0d))) a0d))))) rfl)
  (f0k (j0h a0c (a0a a0c a0d)))))))
  (b0g (c0m (a0a a0c (a0a (b0j e0k (a0a a0c a0d)) (a0a (b0j e0k (a0a (b0p (b0i a0c) (a0l rfl) b0y (a0j e0h a0c a0g)) a0d)) a0d)))))))))⟩) ?_
 rintro ss q ⟨m,rows,rfl,hR,hc,hq⟩
 obtain⟨m1,m2,rl,hr⟩:=id hR
 have p12:2^m<=4096:=Nat.pow_le_pow_right (n:=2) (by decide) m2
 refine⟨rfl,rfl,?_⟩
 refine cutS (fun ρ=>ρ=[.vl (e0w m rows),nv m,.vl (.tup (a0p rows)),.un,.un,.un]) (fun M hM=>hM _ rfl) ?_
 rintro _ rfl
 refine cutS (fun ρ=>ρ=[.vl (e0w m rows),nv m,.vl (.tup (a0p rows)),.ow [],.un,.un]) (fun M hM=>⟨by simp,hM _ rfl⟩) ?_
 rintro _ rfl
 refine cutS (fun ρ=>ρ=[.vl (e0w m rows),nv m,.vl (.tup (a0p rows)),.ow [],.ow ((rows.map b0q).map lstN),.un]) (fun M hM=>⟨by rw[a0x];omega,?_⟩) ?_
 ·refine c0c nD (fun r=>lstN (b0q r)) (by first | rfl | trivial) (fun r acc M3 hr' hM3=>⟨rfl,r,rfl,by have:=(hr r hr').2;omega,hM3⟩) (hM _ ?_)
  rw[List.map_map];rfl
 rintro _ rfl
 refine cutS (fun ρ=>∃S s5,S=runP m rows 132/\ρ=[.vl (e0w m rows),nv m,.vl (.tup (a0p rows)),.ow (S.js.map L2.b0h),.ow (S.held.map lstN),s5]) (fun M hM=>q0b (fun ρ=>∃n S s5,S=runP m rows n/\ρ=[.vl (e0w m rows),nv m,.vl (.tup (a0p rows)),.ow (S.js.map L2.b0h),.ow (S.held.map lstN),s5]) (fun ρ=>match ρ with | [_,_,_,.ow js,_,_]=>200 - js.length | _=>0) ?_ _ ⟨0,runP m rows 0,.un,rfl,rfl⟩) ?_
 ·rintro _ N ⟨n,S,s5,hS,rfl⟩ hN
  have I:PIv m rows S.js S.held:=by rw[hS];exact PIv.run hR n
  have hl:=I.len
  have hcs:=I.cst
  refine⟨rfl,by rw[List.length_map];omega,?_⟩
  refine c0c lstN (fun t=>D.bl (decide ((1:Int)<(((a0p t).length:Nat):Int)))) (by first | rfl | trivial) (fun t acc M3 ht hM3=>hM3) ?_
  rw[show(S.held.map fun t=>D.bl (decide ((1:Int)<(((a0p t).length:Nat):Int))))=(S.held.map fun t=>decide ((1:Int)<(((a0p t).length:Nat):Int))).map D.bl by rw[List.map_map];rfl]
  refine x0m rfl ?_
  cases hany:(S.held.map fun t=>decide ((1:Int)<(((a0p t).length:Nat):Int))).any id with
  | false =>
   refine hM _ ⟨S,s5,?_,rfl⟩
   rw[hS]
   refine o0f hc ?_
   rw[<- hS]
   intro t ht
   rw[List.any_eq_false]at hany
   have:=hany _ (List.mem_map.mpr ⟨t,ht,rfl⟩)
   rw[a0x]at this
   simp at this
   omega
  | true =>
   rw[List.any_eq_true]at hany
   obtain⟨_,hb,ht⟩:=hany
   obtain⟨t0,h0,rfl⟩:=List.mem_map.mp hb
   have h2:2<=t0.length:=by rw[a0x]at ht;simp at ht;omega
   have hns:¬c0p S:=fun z=>by have:=z t0 h0;omega
   obtain⟨t1,ht1,hp⟩:=t0f ⟨t0,h0,h2⟩
   have hst:e0a m S=⟨S.js++[coF S.held],S.held.map fun t=>c0e t (coF S.held) (m+S.js.length)⟩:=by unfold e0a;rw[if_neg hns]
   have hnext:e0a m S=runP m rows (n+1):=by rw[hS];rfl
   have hj:=s0c hc (n:=n) (by rw[<- hS];exact hns)
   rw[<- hS]at hj
   refine⟨rfl,S.js.length+1,?_,by omega,?_⟩
   ·show[Sv.vl (.int ((((S.js.map L2.b0h).length:Nat):Int)+1))]=_
    rw[List.length_map]
    exact congrArg (fun z=>[Sv.vl (D.int z)]) (by omega)
   refine⟨rfl,S.held,rfl,by omega,fun t ht=>by have:=(I.som t ht).2;omega,⟨t0,h0,h2⟩,?_⟩
   generalize hco:coF S.held=p at *
   refine⟨rfl,by rw[List.length_map];omega,?_⟩
   refine c0c lstN (fun t=>lstN (c0e t p (m+S.js.length))) (by first | rfl | trivial) (fun t acc M3 ht hM3=>⟨rfl,t,p,m+S.js.length,?_,by have:=(I.som t ht).2;omega,fun _=>hM3,fun hb=>?_⟩) ?_
   ·show[Sv.vl (lstN t),Sv.vl (L2.b0h p),Sv.vl (.int ((m:Int)+(((S.js.map L2.b0h).length:Nat):Int)))]=_
    rw[List.length_map]
    exact congrArg (fun z=>[Sv.vl (lstN t),Sv.vl (L2.b0h p),Sv.vl (D.int z)]) (by omega:(m:Int)+((S.js.length:Nat):Int)=((m+S.js.length:Nat):Int))
   ·have e:c0e t p (m+S.js.length)=t:=by unfold c0e;rw[if_neg hb]
    rw[e]at hM3
    exact hM3
   ·refine⟨by rw[List.length_map];omega,hN _ ⟨n+1,e0a m S,.vl (L2.b0h p),hnext,?_⟩ ?_⟩
    ·rw[hst,List.map_append,List.map_map];rfl
    ·show 200 - ((S.js.map L2.b0h)++[L2.b0h p]).length<200 - (S.js.map L2.b0h).length
     rw[List.length_append,List.length_map,List.length_singleton];omega
 rintro _ ⟨S,s5,hS,rfl⟩
 have I:PIv m rows S.js S.held:=by rw[hS];exact PIv.run hR 132
 have hl:=I.len
 have h1:∀t∈S.held,t.length=1:=fun t ht=>by
  have:=hc
  rw[<- hS]at this
  have:=this t ht
  have:=(I.som t ht).1
  omega
 refine⟨rfl,by rw[List.length_map];omega,?_⟩
 refine c0c lstN (fun t=>nD (t.getD 0 0)) (by first | rfl | trivial) (fun t acc M3 ht hM3=>h0v (i:=0) (xs:=t) rfl (by rw[h1 t ht];decide) hM3) ?_
 unfold g0i at hq
 rw[<- hS]at hq
 unfold netD a0p at hq
 simp only[List.map_map]at hq
 exact⟨by simp,hq⟩
theorem g0j {C_TooMany:Addr}(m_TooMany:mg "TooMany" = some (.ref C_TooMany))(e_TooMany:PySem.W.excIn K C_TooMany bmV "ValueError.__new__" = true)(dn:DefN K mg "pairs_net" b0n ["wish"])(B:BI mg)(g_givens_of:OkN P w K mg base 1 "givens_of" ["row"] (spA K n0r))(g_refuse_joins:OkN P w K mg base 1 "refuse_joins" ["count"] (spA K a1x))(g_commonest:OkN P w K mg base 2 "commonest" ["held"] (spA K n0s))(g_with_pair:OkN P w K mg base 1 "with_pair" ["things", "pair", "new"] (spA K k0t))(x_refuse_joins_TooMany:OkX P w K mg base 1 "refuse_joins" ["count"] C_TooMany none (spA K y0r)):OkX P w K mg base 3 "pairs_net" ["wish"] C_TooMany none (spA K r0t):=by
 refine dn.aokX (k:=2) a0z (fun j=>j==0) [.un,.un,.un,.un,.un] r0t C_TooMany none rfl (fun f cdv A outer s H E hr=>have hu:=f0d hr;⟨_,(c0v (j0p (s0h (pv 0) (i0d K (n:=2) rfl (c0y (a0t (i:=1) a0z.nd rfl (by first | exact Or.inl rfl | exact Or.inr rfl)) (c0y (a0t (i:=2) a0z.nd rfl (by first | exact Or.inl rfl | exact Or.inr rfl)) i0c)))))
  (c0v (j0p (b0c (i:=3) a0z.nd rfl (by first | exact Or.inl rfl | exact Or.inr rfl) (f0v a0e)))
  (c0v (j0p (j0q (i:=4) ["row"] [] a0z.nd rfl (by first | exact Or.inl rfl | exact Or.inr rfl) rfl (Blk.of (a0i b0n) c0d) (b0u K (pv 2)) (fun _ _ _ _ nd=>(a0t (i:=0) nd rfl (by first | exact Or.inl rfl | exact Or.inr rfl))) (fun _ _ _ _=>c0r) (fun _ _ _ _=>(c0f g_givens_of (hr.mono (by decide)) (a0b (pv 0) a0e)))))
  (c0v (w0g (h0o (a0m (p0r K rfl) rfl B.any_ c1l (a0b (e0c ["things"] [] rfl (Blk.of (a0i b0n) c0d) (b0u K (pv 4)) (fun _ _ _ _ nd=>(a0t (i:=0) nd rfl (by first | exact Or.inl rfl | exact Or.inr rfl))) (fun _ _ _ _=>c0r) (fun _ _ _ _=>(j0t i0f (a0m (b0e K) rfl B.len_ d0d (a0b (pv 0) a0e)) a0h (b0m _)))) a0e)))
  (c0v (g1s (z0q x_refuse_joins_TooMany (hr.mono (by decide)) j1d (a0b (b0d c0w (a0m (b0e K) rfl B.len_ d0d (a0b (pv 3) a0e)) a0h) a0e)) (j0p (h0d (c0f g_refuse_joins (hr.mono (by decide)) (a0b (b0d c0w (a0m (b0e K) rfl B.len_ d0d (a0b (pv 3) a0e)) a0h) a0e)))))
  (c0v (j0p (b0c (i:=5) a0z.nd rfl (by first | exact Or.inl rfl | exact Or.inr rfl) (c0f g_commonest (hr.mono (by decide)) (a0b (pv 4) a0e))))
  (c0v (j0p (j0q (i:=4) ["things"] [5,1,3] a0z.nd rfl (by first | exact Or.inl rfl | exact Or.inr rfl) rfl (Blk.of (a0i b0n) c0d) (b0u K (pv 4)) (fun _ _ _ _ nd=>(a0t (i:=0) nd rfl (by first | exact Or.inl rfl | exact Or.inr rfl))) (fun _ _ _ _=>c0r) (fun _ _ _ _=>(c0f g_with_pair (hr.mono (by decide)) (a0b (pv 0) (a0b (pv 1) (a0b (b0d c0w (pv 2) (a0m (b0e K) rfl B.len_ d0d (a0b (pv 3) a0e))) a0e)))))))
  (c0v (j0p (h0d (l0l K PySem.F.plainAttrs_list PySem.F.slot_list_append PySem.F.type_list_append g0k (pv 3) (a0b (pv 5) a0e))))
  j0b)))))
  t0u)))),(a0k (m0h a0c (g0n (b0v (a0l rfl) (b0v (a0l rfl) e0y (fun _ _ _=>e0f)) (fun _ _ _=>e0f))))
  (a0k (a0u (d0y a0d) rfl)
  (a0k (g0o (b0p (b0i a0c) (a0l rfl) b0y (a0q (a0a a0c a0d))) rfl)
  (a0k (j0k (g0z (b0j t0h (a0a (b0p (b0i a0c) (a0l rfl) b0y (a0j d0m (b0j b0w (a0a a0c a0d)) a0g)) a0d)))
  (a0k (b1r (b0g (a0q (a0a (a0j b0a (b0j b0w (a0a a0c a0d)) a0g) a0d))) (f0k (a0q (a0a (a0j b0a (b0j b0w (a0a a0c a0d)) a0g) a0d))))
  (a0k (a0u (a0q (a0a a0c a0d)) rfl)
  (a0k (g0o (b0p (b0i a0c) (a0l rfl) b0y (a0q (a0a a0c (a0a a0c (a0a (a0j b0a a0c (b0j b0w (a0a a0c a0d))) a0d))))) rfl)
  (a0k (f0k (j0h a0c (a0a a0c a0d)))
  b0k)))))
  n0z))))⟩) ?_
 rintro ss q ⟨m,rows,rfl,hR,hc,hq⟩
 obtain⟨m1,m2,rl,hr⟩:=id hR
 have p12:2^m<=4096:=Nat.pow_le_pow_right (n:=2) (by decide) m2
 refine⟨rfl,rfl,?_⟩
 refine cutS (fun ρ=>ρ=[.vl (e0w m rows),nv m,.vl (.tup (a0p rows)),.un,.un,.un]) (fun M hM=>hM _ rfl) ?_
 rintro _ rfl
 refine cutS (fun ρ=>ρ=[.vl (e0w m rows),nv m,.vl (.tup (a0p rows)),.ow [],.un,.un]) (fun M hM=>⟨by simp,hM _ rfl⟩) ?_
 rintro _ rfl
 refine cutS (fun ρ=>ρ=[.vl (e0w m rows),nv m,.vl (.tup (a0p rows)),.ow [],.ow ((rows.map b0q).map lstN),.un]) (fun M hM=>⟨by rw[a0x];omega,?_⟩) ?_
 ·refine c0c nD (fun r=>lstN (b0q r)) (by first | rfl | trivial) (fun r acc M3 hr' hM3=>⟨rfl,r,rfl,by have:=(hr r hr').2;omega,hM3⟩) (hM _ ?_)
  rw[List.map_map];rfl
 rintro _ rfl
 refine cutS (fun _=>False) (fun M hM=>q0b (fun ρ=>∃n S s5,n<=132/\S=runP m rows n/\ρ=[.vl (e0w m rows),nv m,.vl (.tup (a0p rows)),.ow (S.js.map L2.b0h),.ow (S.held.map lstN),s5]) (fun ρ=>match ρ with | [_,_,_,.ow js,_,_]=>200 - js.length | _=>0) ?_ _ ⟨0,runP m rows 0,.un,by omega,rfl,rfl⟩) (fun _ z=>z.elim)
 rintro _ N ⟨n,S,s5,hn,hS,rfl⟩ hN
 have I:PIv m rows S.js S.held:=by rw[hS];exact PIv.run hR n
 have hl:=I.len
 obtain⟨hns,hj⟩:=v0z hn hc
 rw[<- hS]at hns hj
 obtain⟨t0,h0,h2⟩:=m0u hns
 refine⟨rfl,by rw[List.length_map];omega,?_⟩
 refine c0c lstN (fun t=>D.bl (decide ((1:Int)<(((a0p t).length:Nat):Int)))) (by first | rfl | trivial) (fun t acc M3 ht hM3=>hM3) ?_
 rw[show(S.held.map fun t=>D.bl (decide ((1:Int)<(((a0p t).length:Nat):Int))))=(S.held.map fun t=>decide ((1:Int)<(((a0p t).length:Nat):Int))).map D.bl by rw[List.map_map];rfl]
 refine x0m rfl ?_
 have hany:(S.held.map fun t=>decide ((1:Int)<(((a0p t).length:Nat):Int))).any id=true:=List.any_eq_true.mpr ⟨_,List.mem_map.mpr ⟨t0,h0,rfl⟩,by rw[a0x];simp;omega⟩
 rw[hany]
 have he:[Sv.vl (.int ((((S.js.map L2.b0h).length:Nat):Int)+1))]=[nv (n+1)]:=by
  rw[List.length_map,hj]
  exact congrArg (fun z=>[Sv.vl (D.int z)]) (by omega)
 by_cases hn2:n=132
 ·exact .inl ⟨rfl,n+1,he,by omega,⟨_,rfl⟩,hq⟩
 ·obtain⟨t1,ht1,hp⟩:=t0f ⟨t0,h0,h2⟩
  have hst:e0a m S=⟨S.js++[coF S.held],S.held.map fun t=>c0e t (coF S.held) (m+S.js.length)⟩:=by unfold e0a;rw[if_neg hns]
  have hnext:e0a m S=runP m rows (n+1):=by rw[hS];rfl
  refine .inr ⟨rfl,n+1,he,by omega,?_⟩
  refine⟨rfl,S.held,rfl,by omega,fun t ht=>by have:=(I.som t ht).2;omega,⟨t0,h0,h2⟩,?_⟩
  generalize hco:coF S.held=p at *
  refine⟨rfl,by rw[List.length_map];omega,?_⟩
  refine c0c lstN (fun t=>lstN (c0e t p (m+S.js.length))) (by first | rfl | trivial) (fun t acc M3 ht hM3=>⟨rfl,t,p,m+S.js.length,?_,by have:=(I.som t ht).2;omega,fun _=>hM3,fun hb=>?_⟩) ?_
  ·show[Sv.vl (lstN t),Sv.vl (L2.b0h p),Sv.vl (.int ((m:Int)+(((S.js.map L2.b0h).length:Nat):Int)))]=_
   rw[List.length_map]
   exact congrArg (fun z=>[Sv.vl (lstN t),Sv.vl (L2.b0h p),Sv.vl (D.int z)]) (by omega:(m:Int)+((S.js.length:Nat):Int)=((m+S.js.length:Nat):Int))
  ·have e:c0e t p (m+S.js.length)=t:=by unfold c0e;rw[if_neg hb]
   rw[e]at hM3
   exact hM3
  ·refine⟨by rw[List.length_map];omega,hN _ ⟨n+1,e0a m S,.vl (L2.b0h p),by omega,hnext,?_⟩ ?_⟩
   ·rw[hst,List.map_append,List.map_map];rfl
   ·show 200 - ((S.js.map L2.b0h)++[L2.b0h p]).length<200 - (S.js.map L2.b0h).length
    rw[List.length_append,List.length_map,List.length_singleton];omega
end
def y0p:ASp:=fun ss q=>∃n many most:Nat,ss=[.tp n,nv many,nv most]/\n<=1000000/\1<=many/\many<=12/\1<=most/\most<=24/\∀(rows:List Nat) (n':Nat),e0u many rows->n'<=n+200->1<=rows.length->q (.f (a0p rows)) [.tp n',nv many,nv most]
theorem c1n (a k:Nat):eqD (.int (Builtin.bitAnd ((a:Int) / 2^((k:Int).toNat)) 1)) (.int 1)=a.testBit k:=by
 rw[y0m]
 cases a.testBit k <;> simp[eqD]
def Gr:Nat->Nat->Prop
 | 0,r=>r=4095
 | 1,r=>∃a,a<12/\r=4095 &&& (4095 ^^^ 2^a)
 | 2,r=>∃a b,a<12/\b<12/\r=(4095 &&& (4095 ^^^ 2^a)) &&& (4095 ^^^ 2^b)
 | _,_=>False
theorem e1m {j r x:Nat}(h:Gr j r)(hj:j<2)(hx:x<12):Gr (j+1) (r &&& (4095 ^^^ 2^x)):=by
 match j,hj with
 | 0,_=>have h:r=4095:=h;subst h;exact⟨x,hx,rfl⟩
 | 1,_=>obtain⟨a,ha,rfl⟩:=h;exact⟨a,x,ha,hx,rfl⟩
theorem h1z {j r:Nat}(h:Gr j r):1<=r/\r<4096:=by
 match j,h with
 | 0,h=>have h:r=4095:=h;subst h;decide
 | 1,⟨a,ha,e⟩=>subst e;exact(by decide +kernel:∀a,a<12->1<=4095 &&& (4095 ^^^ 2^a)/\4095 &&& (4095 ^^^ 2^a)<4096) a ha
 | 2,⟨a,b,ha,hb,e⟩=>subst e;exact(by decide +kernel:∀a,a<12->∀b,b<12->1<=(4095 &&& (4095 ^^^ 2^a)) &&& (4095 ^^^ 2^b)/\(4095 &&& (4095 ^^^ 2^a)) &&& (4095 ^^^ 2^b)<4096) a ha b hb
 | _+3,h=>exact h.elim
def y0s:ASp:=fun ss q=>∃n:Nat,ss=[.tp n]/\n<=1000000/\∀(rows:List Nat) (n':Nat),e0u 12 rows->1<=rows.length->n'<=n+200->q (.f (a0p rows)) [.tp n']
def f1e:ASp:=fun ss q=>∃n:Nat,ss=[.tp n]/\n<=100000/\∀(m:Nat) (rows:List Nat) (n':Nat),e0u m rows->1<=rows.length->n'<=n+300->q (.d (e0w m rows)) [.tp n']
def y0q:ASp:=fun ss q=>∃(m:Nat) (rows:List Nat),ss=[.vl (e0w m rows)]/\e0u m rows/\(c0p (runP m rows 132)->q (.d (netD (g0i m rows))) [.vl (e0w m rows)])/\(¬c0p (runP m rows 132)->q (.d (.tup [.str "no",.bl true])) [.vl (e0w m rows)])
section
variable {P:Program}{w:World}{K:PySem.W.Frag}{mg:Str->Option Value}{base:Heap}
theorem o0p (dn:DefN K mg "_law_whole" f0m ["_law_found"])(B:BI mg):OkN P w K mg base 1 "_law_whole" ["_law_found"] (spA K k0u):=by
 refine dn.aok2 (k:=0) o0d (fun j=>j==0) [] k0u rfl (fun f cdv A outer s H E hr=>have hu:=f0d hr;⟨_,(a0n (b0t (w0l (a0m (f0g K) rfl B.isinstance_ a0s (a0b (pv 0) (a0b (q0o rfl B.int_ c1k) a0e))) (b1w (g1y (a0m (f0g K) rfl B.isinstance_ a0s (a0b (pv 0) (a0b (q0o rfl B.bool_ e1z) a0e)))))))),(b0g (m0g (b0j g0x (a0a a0c (a0a l0f a0d))) (z0d (b0j g0x (a0a a0c (a0a l0f a0d))))))⟩) ?_
 rintro ss q ⟨d,rfl,hq⟩
 refine⟨rfl,rfl,?_⟩
 cases d with
 | non=>exact e0g rfl p0d hq
 | str _=>exact e0g rfl p0c hq
 | tup _=>exact e0g rfl k0x hq
 | lst _=>exact e0g rfl n0a hq
 | bl b=>exact e0g rfl n0c (e0g rfl k0y hq)
 | int i=>exact e0g rfl p0e (e0g rfl n0b hq)
theorem i0t (dn:DefN K mg "_law_is_tuples" c0a ["_law_net"])(B:BI mg)(g_law_whole:OkN P w K mg base 1 "_law_whole" ["_law_found"] (spA K k0u)):OkN P w K mg base 2 "_law_is_tuples" ["_law_net"] (spA K k0v):=by
 refine dn.aok2 (k:=1) f0u (fun j=>j==0) [.un] k0v rfl (fun f cdv A outer s H E hr=>have hu:=f0d hr;⟨_,(a0f (f0a (PW.pt (o0h (j0o (h0o (a0m (f0g K) rfl B.isinstance_ a0s (a0b (pv 0) (a0b (q0o rfl B.tuple_ d0q) a0e))))) (o0h (a0v (o0k K hr.units) (a0m (b0e K) rfl B.len_ d0d (a0b (pv 0) a0e)) a0h (b0m _)) (o0g (j0o (h0o (c0f g_law_whole (hr.mono (by decide)) (a0b (g0g (c0o K) (pv 0) a0h (fun _ _=>rfl)) a0e))))))))
  (a0n (b0t q0p))
  c0b)
  (a0f (f0a (PW.pt (o0h (j0o (h0o (a0m (f0g K) rfl B.isinstance_ a0s (a0b (g0g (c0o K) (pv 0) a0h (fun _ _=>rfl)) (a0b (q0o rfl B.tuple_ d0q) a0e))))) (o0g (j0o (h0o (a0m (f0g K) rfl B.isinstance_ a0s (a0b (g0g (c0o K) (pv 0) a0h (fun _ _=>rfl)) (a0b (q0o rfl B.tuple_ d0q) a0e))))))))
  (a0n (b0t q0p))
  c0b)
  (a0f (g0e PassesOwn.never rfl (b0u K (g0g (c0o K) (pv 0) a0h (fun _ _=>rfl))) (a0t (i:=1) f0u.nd rfl (by first | exact Or.inl rfl | exact Or.inr rfl))
  (a0n (f0a (PW.pt (o0h (j0o (h0o (a0m (f0g K) rfl B.isinstance_ a0s (a0b (pv 1) (a0b (q0o rfl B.tuple_ d0q) a0e))))) (o0h (a0v (o0k K hr.units) (a0m (b0e K) rfl B.len_ d0d (a0b (pv 1) a0e)) a0h (b0m _)) (o0g (j0o (h0o (a0m (p0s K rfl) rfl B.all_ c1m (a0b (e0c ["_law_one"] [] rfl (Blk.of (a0i c0a) e0e) (b0u K (pv 1)) (fun _ _ _ _ nd=>(a0t (i:=0) nd rfl (by first | exact Or.inl rfl | exact Or.inr rfl))) (fun _ _ _ _=>c0r) (fun _ _ _ _=>(c0f g_law_whole (hr.mono (by decide)) (a0b (pv 0) a0e)))) a0e))))))))
  (a0n (b0t q0p))
  c0b)))
  (a0n (b0t (a0m (p0s K rfl) rfl B.all_ c1m (a0b (e0c ["_law_out"] [] rfl (Blk.of (a0i c0a) e0e) (b0u K (g0g (c0o K) (pv 0) a0h (fun _ _=>rfl))) (fun _ _ _ _ nd=>(a0t (i:=0) nd rfl (by first | exact Or.inl rfl | exact Or.inr rfl))) (fun _ _ _ _=>c0r) (fun _ _ _ _=>(c0f g_law_whole (hr.mono (by decide)) (a0b (pv 0) a0e)))) a0e))))))),(a0k (d0i (f0y (f0h (g0z (b0j g0x (a0a a0c (a0a l0f a0d))))) (f0y (a0r (a0j o0m (b0j b0w (a0a a0c a0d)) a0g)) (f0h (g0z (a0q (a0a (a0j e0h a0c a0g) a0d))))))
  (b0g j0g)
  b0k)
  (a0k (d0i (f0y (f0h (g0z (b0j g0x (a0a (a0j e0h a0c a0g) (a0a l0f a0d))))) (f0h (g0z (b0j g0x (a0a (a0j e0h a0c a0g) (a0a l0f a0d))))))
  (b0g j0g)
  b0k)
  (a0k (e0l (pin:=(fun _=>false)) (b0i (a0j e0h a0c a0g)) (a0l rfl)
  (d0i (f0y (f0h (g0z (b0j g0x (a0a a0c (a0a l0f a0d))))) (f0y (a0r (a0j o0m (b0j b0w (a0a a0c a0d)) a0g)) (f0h (g0z (b0j t0i (a0a (b0p (b0i a0c) (a0l rfl) b0y (a0q (a0a a0c a0d))) a0d))))))
  (b0g j0g)
  b0k))
  (b0g (b0j t0i (a0a (b0p (b0i (a0j e0h a0c a0g)) (a0l rfl) b0y (a0q (a0a a0c a0d))) a0d))))))⟩) ?_
 rintro ss q ⟨N,rfl,hos,hq⟩
 refine⟨rfl,rfl,e0g rfl d0a (f0x (b:=true) rfl rfl (by simp[D.depth]) (by simp[eqD]) (l0a rfl rfl ⟨rfl,_,rfl,?_⟩))⟩
 refine l0a rfl rfl (e0g rfl d0a (l0a rfl rfl (e0g rfl d0a ?_)))
 refine l0a rfl rfl (g0w L2.b0h (fun k ρ=>∃s1,ρ=[.vl (netD N),s1]) (fun _ _ _=>trivial) ?_ ?_ ⟨.un,rfl⟩)
 ·rintro k p _ M hk ⟨s1,rfl⟩ hM
  refine e0g rfl d0a (f0x (b:=true) rfl rfl (by simp[D.depth]) (by simp[eqD]) ?_)
  refine⟨by simp,y0c (fun _=>.bl true) _ trivial (fun d acc N hd hN=>?_) (x0n (bs:=[true,true]) rfl ?_)⟩
  ·have:∃i,d = .int i:=by simp at hd;rcases hd with rfl | rfl <;> exact⟨_,rfl⟩
   obtain⟨i,rfl⟩:=this
   exact⟨rfl,_,rfl,hN⟩
  ·exact hM _ ⟨_,rfl⟩
 ·rintro ρ ⟨s1,rfl⟩
  refine l0a rfl rfl ⟨?_,a1v _ trivial (fun x acc N _ hN=>⟨rfl,_,rfl,hN⟩) (x0n rfl ?_)⟩
  ·rw[a0x];omega
  ·rw[show(N.os.map fun _=>true).all id=true by simp];exact hq
theorem o0q {C_TooMany C_NoFit C_NoWidth C_NoRow C_NoName C_Nought C_Bare C_Loose C_Leans C_NoAnswer C_NoText:Addr}(m_NoFit:mg "NoFit" = some (.ref C_NoFit))(m_TooMany:mg "TooMany" = some (.ref C_TooMany))(m_NoWidth:mg "NoWidth" = some (.ref C_NoWidth))(n_ValueError:mg "ValueError" = none)(m_NoRow:mg "NoRow" = some (.ref C_NoRow))(m_NoName:mg "NoName" = some (.ref C_NoName))(m_Nought:mg "Nought" = some (.ref C_Nought))(m_Bare:mg "Bare" = some (.ref C_Bare))(m_Loose:mg "Loose" = some (.ref C_Loose))(m_Leans:mg "Leans" = some (.ref C_Leans))(m_NoAnswer:mg "NoAnswer" = some (.ref C_NoAnswer))(m_NoText:mg "NoText" = some (.ref C_NoText))(i_TooMany:ExIs K C_TooMany)(k_TooMany_NoFit:PySem.W.kitOne K (.ref C_TooMany) (.ref C_NoFit)=some false)(k_TooMany_TooMany:PySem.W.kitOne K (.ref C_TooMany) (.ref C_TooMany)=some true)(k_TooMany_NoWidth:PySem.W.kitOne K (.ref C_TooMany) (.ref C_NoWidth)=some false)(k_TooMany_ValueError:PySem.W.kitOne K (.ref C_TooMany) (.type "ValueError")=some true)(k_TooMany_NoRow:PySem.W.kitOne K (.ref C_TooMany) (.ref C_NoRow)=some false)(k_TooMany_NoName:PySem.W.kitOne K (.ref C_TooMany) (.ref C_NoName)=some false)(k_TooMany_Nought:PySem.W.kitOne K (.ref C_TooMany) (.ref C_Nought)=some false)(k_TooMany_Bare:PySem.W.kitOne K (.ref C_TooMany) (.ref C_Bare)=some false)(k_TooMany_Loose:PySem.W.kitOne K (.ref C_TooMany) (.ref C_Loose)=some false)(k_TooMany_Leans:PySem.W.kitOne K (.ref C_TooMany) (.ref C_Leans)=some false)(k_TooMany_NoAnswer:PySem.W.kitOne K (.ref C_TooMany) (.ref C_NoAnswer)=some false)(k_TooMany_NoText:PySem.W.kitOne K (.ref C_TooMany) (.ref C_NoText)=some false)(dn:DefN K mg "_law_alone" f0n ["_law_error", "_law_place"])(B:BI mg):OkN P w K mg base 1 "_law_alone" ["_law_error", "_law_place"] (spA K (y0u C_TooMany)):=by
 refine dn.aok2 (k:=0) d0u (fun j=>j==0||j==1) [.un] (y0u C_TooMany) rfl (fun f cdv A outer s H E hr=>have hu:=f0d hr;⟨_,(a0f (b0c (i:=2) d0u.nd rfl (by first | exact Or.inl rfl | exact Or.inr rfl) (f0v (a0b (a0m (c0k K (c:=.ref C_NoFit) (u:=.ref C_NoFit) (fun _ h=>h)) rfl B.isinstance_ a0s (a0b (pv 0) (a0b (e0b (v:=.ref C_NoFit) rfl m_NoFit rfl) a0e))) (a0b (a0m (c0k K (c:=.ref C_TooMany) (u:=.ref C_TooMany) (fun _ h=>h)) rfl B.isinstance_ a0s (a0b (pv 0) (a0b (e0b (v:=.ref C_TooMany) rfl m_TooMany rfl) a0e))) (a0b (a0m (c0k K (c:=.ref C_NoWidth) (u:=.ref C_NoWidth) (fun _ h=>h)) rfl B.isinstance_ a0s (a0b (pv 0) (a0b (e0b (v:=.ref C_NoWidth) rfl m_NoWidth rfl) a0e))) a0e)))))
  (a0f (b0c (i:=2) d0u.nd rfl (by first | exact Or.inl rfl | exact Or.inr rfl) (b0d (j0y K) (pv 2) (f0v (a0b (a0m (c0k K (c:=.ref C_NoRow) (u:=.ref C_NoRow) (fun _ h=>h)) rfl B.isinstance_ a0s (a0b (pv 0) (a0b (e0b (v:=.ref C_NoRow) rfl m_NoRow rfl) a0e))) (a0b (a0m (c0k K (c:=.ref C_NoName) (u:=.ref C_NoName) (fun _ h=>h)) rfl B.isinstance_ a0s (a0b (pv 0) (a0b (e0b (v:=.ref C_NoName) rfl m_NoName rfl) a0e))) (a0b (a0m (c0k K (c:=.ref C_Nought) (u:=.ref C_Nought) (fun _ h=>h)) rfl B.isinstance_ a0s (a0b (pv 0) (a0b (e0b (v:=.ref C_Nought) rfl m_Nought rfl) a0e))) a0e))))))
  (a0f (b0c (i:=2) d0u.nd rfl (by first | exact Or.inl rfl | exact Or.inr rfl) (b0d (j0y K) (pv 2) (f0v (a0b (a0m (c0k K (c:=.ref C_Bare) (u:=.ref C_Bare) (fun _ h=>h)) rfl B.isinstance_ a0s (a0b (pv 0) (a0b (e0b (v:=.ref C_Bare) rfl m_Bare rfl) a0e))) (a0b (a0m (c0k K (c:=.ref C_Loose) (u:=.ref C_Loose) (fun _ h=>h)) rfl B.isinstance_ a0s (a0b (pv 0) (a0b (e0b (v:=.ref C_Loose) rfl m_Loose rfl) a0e))) (a0b (a0m (c0k K (c:=.ref C_Leans) (u:=.ref C_Leans) (fun _ h=>h)) rfl B.isinstance_ a0s (a0b (pv 0) (a0b (e0b (v:=.ref C_Leans) rfl m_Leans rfl) a0e))) a0e))))))
  (a0f (b0c (i:=2) d0u.nd rfl (by first | exact Or.inl rfl | exact Or.inr rfl) (b0d (j0y K) (pv 2) (f0v (a0b (a0m (c0k K (c:=.ref C_NoAnswer) (u:=.ref C_NoAnswer) (fun _ h=>h)) rfl B.isinstance_ a0s (a0b (pv 0) (a0b (e0b (v:=.ref C_NoAnswer) rfl m_NoAnswer rfl) a0e))) (a0b (a0m (c0k K (c:=.ref C_NoText) (u:=.ref C_NoText) (fun _ h=>h)) rfl B.isinstance_ a0s (a0b (pv 0) (a0b (e0b (v:=.ref C_NoText) rfl m_NoText rfl) a0e))) a0e)))))
  (a0n (b0t (w0l (a0m (c0k K (c:=.ty "ValueError") (u:=.type "ValueError") (fun _ h=>h)) rfl B.isinstance_ a0s (a0b (pv 0) (a0b (q0o (T := "ValueError") rfl n_ValueError (by decide +kernel)) a0e))) (w0l (j0t (j0x K hr.units) (l0l K PySem.F.plainAttrs_list PySem.F.slot_list_count PySem.F.type_list_count (w0s K) (pv 2) (a0b q0p a0e)) a0h (b0m _)) (b1w (g0g (c0o K) (pv 2) (pv 1) (fun _ _=>rfl))))))))))),(a0k (a0u (d0y (a0a d0z (a0a d0z (a0a d0z a0d)))) rfl)
  (a0k (a0u (a0j k0a a0c (d0y (a0a d0z (a0a d0z (a0a d0z a0d))))) rfl)
  (a0k (a0u (a0j k0a a0c (d0y (a0a d0z (a0a d0z (a0a d0z a0d))))) rfl)
  (a0k (a0u (a0j k0a a0c (d0y (a0a d0z (a0a d0z a0d)))) rfl)
  (b0g (m0g d0z (m0g (a0j j0z (d1a a0c (a0a j0g a0d)) a0g) (a0j e0h a0c a0c))))))))⟩) ?_
 rintro ss q ⟨rfl,hq⟩
 refine⟨rfl,rfl,?_⟩
 refine cutS (fun ρ=>ρ=[.ex C_TooMany none,nv 1,.ow (([false,true,false]).map D.bl)]) (fun M hM=>⟨false,i_TooMany,k_TooMany_NoFit,true,i_TooMany,k_TooMany_TooMany,false,i_TooMany,k_TooMany_NoWidth,by simp,hM _ rfl⟩) ?_
 rintro _ rfl
 refine cutS (fun ρ=>ρ=[.ex C_TooMany none,nv 1,.ow (([false,true,false,false,false,false]).map D.bl)]) (fun M hM=>⟨false,i_TooMany,k_TooMany_NoRow,false,i_TooMany,k_TooMany_NoName,false,i_TooMany,k_TooMany_Nought,by simp,by simp,hM _ rfl⟩) ?_
 rintro _ rfl
 refine cutS (fun ρ=>ρ=[.ex C_TooMany none,nv 1,.ow (([false,true,false,false,false,false,false,false,false]).map D.bl)]) (fun M hM=>⟨false,i_TooMany,k_TooMany_Bare,false,i_TooMany,k_TooMany_Loose,false,i_TooMany,k_TooMany_Leans,by simp,by simp,hM _ rfl⟩) ?_
 rintro _ rfl
 refine cutS (fun ρ=>ρ=[.ex C_TooMany none,nv 1,.ow (([false,true,false,false,false,false,false,false,false,false,false]).map D.bl)]) (fun M hM=>⟨false,i_TooMany,k_TooMany_NoAnswer,false,i_TooMany,k_TooMany_NoText,by simp,by simp,hM _ rfl⟩) ?_
 rintro _ rfl
 refine⟨true,i_TooMany,k_TooMany_ValueError,e1q ⟨rfl,gE0 (c:=true) rfl (j1j rfl rfl hq)⟩⟩
theorem q0u {C_TooMany C_JoinError:Addr}(m_TooMany:mg "TooMany" = some (.ref C_TooMany))(m_JoinError:mg "JoinError" = some (.ref C_JoinError))(ea_JoinError:k0k K C_JoinError=true)(s_TooMany_JoinError:PySem.W.subIn K (.ref C_TooMany) (.ref C_JoinError)=some true)(dn:DefN K mg "_law_told" g0q ["_law_wish_here"])(B:BI mg)(g_pairs_net:OkN P w K mg base 3 "pairs_net" ["wish"] (spA K t0l))(g_law_alone:OkN P w K mg base 1 "_law_alone" ["_law_error", "_law_place"] (spA K (y0u C_TooMany)))(x_pairs_net_TooMany:OkX P w K mg base 3 "pairs_net" ["wish"] C_TooMany none (spA K r0t)):OkN P w K mg base 4 "_law_told" ["_law_wish_here"] (spA K y0q):=by
 refine dn.aok2 (k:=3) d0l (fun j=>j==0) [.un,.un,.un] y0q rfl (fun f cdv A outer s H E hr=>have hu:=f0d hr;⟨_,(a0f (b0c (i:=1) d0l.nd rfl (by first | exact Or.inl rfl | exact Or.inr rfl) h0p)
  (a0f (b0c (i:=2) d0l.nd rfl (by first | exact Or.inl rfl | exact Or.inr rfl) h0p)
  (a0f (j1a (d1j (a0n (b0c (i:=1) d0l.nd rfl (by first | exact Or.inl rfl | exact Or.inr rfl) (c0f g_pairs_net (hr.mono (by decide)) (a0b (pv 0) a0e)))))
  (d1i x_pairs_net_TooMany (hr.mono (by decide)) rfl rfl rfl rfl (a0b (pv 0) a0e) d1v (fun od=>(h1y (i:=3) rfl m_JoinError ea_JoinError s_TooMany_JoinError d0l.nd rfl rfl (fun a =>
  (a0n (b0c (i:=2) d0l.nd rfl (by first | exact Or.inl rfl | exact Or.inr rfl) (pv 3))))))))
  (a0f (f0a (a0v q0r (pv 2) h0p (b0m _))
  (a0n (b0t (d0j (a0b e0q (a0b (c0f g_law_alone (hr.mono (by decide)) (a0b (pv 2) (a0b a0h a0e))) a0e)))))
  c0b)
  (a0n (b0t (pv 1))))))),(a0k (a0u f0j rfl)
  (a0k (a0u f0j rfl)
  (a0k (b1r (a0u (a0q (a0a a0c a0d)) rfl)
  (z0k (a0a a0c a0d)
  (a1p rfl (a0u a0c rfl))))
  (a0k (d0i (a0r (a0j m0t a0c f0j))
  (b0g (c0m (a0a m0f (a0a (a0q (a0a a0c (a0a a0g a0d))) a0d))))
  b0k)
  (b0g a0c)))))⟩) ?_
 rintro ss q ⟨m,rows,rfl,hR,hq1,hq2⟩
 refine⟨rfl,rfl,?_⟩
 refine cutS (fun ρ=>ρ=[.vl (e0w m rows),.vl .non,.un,.un]) (fun M hM=>hM _ rfl) ?_
 rintro _ rfl
 refine cutS (fun ρ=>ρ=[.vl (e0w m rows),.vl .non,.vl .non,.un]) (fun M hM=>hM _ rfl) ?_
 rintro _ rfl
 by_cases h:c0p (runP m rows 132)
 ·refine cutS (fun ρ=>ρ=[.vl (e0w m rows),.vl (netD (g0i m rows)),.vl .non,.un]) (fun M hM=>.inl ⟨rfl,m,rows,rfl,hR,h,hM _ rfl⟩) ?_
  rintro _ rfl
  exact hq1 h
 ·refine cutS (fun ρ=>ρ=[.vl (e0w m rows),.vl .non,.ex C_TooMany none,.un]) (fun M hM=>.inr ⟨rfl,m,rows,rfl,hR,h,hM _ rfl⟩) ?_
  rintro _ rfl
  exact⟨rfl,rfl,rfl,by simp,hq2 h⟩
theorem i0s (dn:DefN K mg "_law_wish_rows" d0f ["_law_tape_here", "_law_many", "_law_most"])(B:BI mg)(g_law_draw:OkN P w K mg base 1 "_law_draw" ["_law_tape_here", "_law_many"] (spA K y0t)):OkN P w K mg base 2 "_law_wish_rows" ["_law_tape_here", "_law_many", "_law_most"] (spA K y0p):=by
 refine dn.aok2 (k:=1) a0w (fun j=>j==0||j==1||j==2) [.un,.un,.un,.un,.un] y0p rfl (fun f cdv A outer s H E hr=>have hu:=f0d hr;⟨_,(a0f (b0c (i:=3) a0w.nd rfl (by first | exact Or.inl rfl | exact Or.inr rfl) (f0v a0e))
  (a0f (g0e PassesOwn.never rfl (d0w rfl B.range_ (a0b (b0d c0w a0h (c0f g_law_draw (hr.mono (by decide)) (a0b (pv 0) (a0b (pv 2) a0e)))) a0e)) (a0t (i:=4) a0w.nd rfl (by first | exact Or.inl rfl | exact Or.inr rfl))
  (a0f (b0c (i:=5) a0w.nd rfl (by first | exact Or.inl rfl | exact Or.inr rfl) (c0f g_law_draw (hr.mono (by decide)) (a0b (pv 0) (a0b a0h a0e))))
  (a0f (b0c (i:=6) a0w.nd rfl (by first | exact Or.inl rfl | exact Or.inr rfl) (b0d c0w a0h (c0f g_law_draw (hr.mono (by decide)) (a0b (pv 0) (a0b (b0d l0m (b0d l0n a0h (pv 1)) a0h) a0e)))))
  (a0f (f0a (a0v (j0x K hr.units) (pv 5) a0h (b0m _))
  (a0n (b0c (i:=6) a0w.nd rfl (by first | exact Or.inl rfl | exact Or.inr rfl) (b0d l0n a0h (c0f g_law_draw (hr.mono (by decide)) (a0b (pv 0) (a0b (pv 1) a0e))))))
  c0b)
  (a0f (f0a (a0v (j0x K hr.units) (pv 5) a0h (b0m _))
  (a0f (b0c (i:=7) a0w.nd rfl (by first | exact Or.inl rfl | exact Or.inr rfl) (c0f g_law_draw (hr.mono (by decide)) (a0b (pv 0) (a0b (pv 1) a0e))))
  (a0n (b0c (i:=6) a0w.nd rfl (by first | exact Or.inl rfl | exact Or.inr rfl) (b0d l0n (b0d l0m (b0d l0n a0h (b0d c0w a0h (c0f g_law_draw (hr.mono (by decide)) (a0b (pv 0) (a0b (b0d l0m (pv 1) (pv 7)) a0e))))) a0h) (pv 7)))))
  c0b)
  (a0f (f0a (PW.pt (i0o (a0v i0f (pv 5) a0h (b0m _)) (g0c (a0v (o0k K hr.units) (pv 3) (f0v a0e) (b0m _)))))
  (a0f (b0c (i:=6) a0w.nd rfl (by first | exact Or.inl rfl | exact Or.inr rfl) (g0g (c0o K) (pv 3) (c0f g_law_draw (hr.mono (by decide)) (a0b (pv 0) (a0b (a0m (b0e K) rfl B.len_ d0d (a0b (pv 3) a0e)) a0e))) (fun _ _=>rfl)))
  (a0n (f0a (a0v i0f (pv 5) a0h (b0m _))
  (a0n (b0c (i:=6) a0w.nd rfl (by first | exact Or.inl rfl | exact Or.inr rfl) (a0m (y0i rfl) rfl B.max_ i1m (a0b a0h (a0b (b0d b1x (pv 6) (b0d l0n a0h (c0f g_law_draw (hr.mono (by decide)) (a0b (pv 0) (a0b (pv 1) a0e))))) a0e)))))
  c0b)))
  c0b)
  (a0n (h0d (l0l K PySem.F.plainAttrs_list PySem.F.slot_list_append PySem.F.type_list_append g0k (pv 3) (a0b (pv 6) a0e))))))))))
  (a0n (b0t (pv 3))))),(a0k (a0u (d0y a0d) rfl)
  (a0k (e0l (pin:=(fun _=>false)) (d0r (a0a (a0j b0a a0g (a0q (a0a a0c (a0a a0c a0d)))) a0d)) (a0l rfl)
  (a0k (a0u (a0q (a0a a0c (a0a a0g a0d))) rfl)
  (a0k (a0u (a0j b0a a0g (a0q (a0a a0c (a0a (a0j b0a (a0j f0o a0g a0c) a0g) a0d)))) rfl)
  (a0k (d0i (a0r (a0j j0z a0c a0g))
  (a0u (a0j f0o a0g (a0q (a0a a0c (a0a a0c a0d)))) rfl)
  b0k)
  (a0k (d0i (a0r (a0j j0z a0c a0g))
  (a0k (a0u (a0q (a0a a0c (a0a a0c a0d))) rfl)
  (a0u (a0j f0o (a0j b0a (a0j f0o a0g (a0j b0a a0g (a0q (a0a a0c (a0a (a0j b0a a0c a0c) a0d))))) a0g) a0c) rfl))
  b0k)
  (a0k (d0i (f0i (a0r (a0j d0m a0c a0g)) (a0r (a0j o0m a0c (d0y a0d))))
  (a0k (a0u (a0j e0h a0c (a0q (a0a a0c (a0a (b0j b0w (a0a a0c a0d)) a0d)))) rfl)
  (d0i (a0r (a0j d0m a0c a0g))
  (a0u (b0j a1n (a0a a0g (a0a (a0j b0a a0c (a0j f0o a0g (a0q (a0a a0c (a0a a0c a0d))))) a0d))) rfl)
  b0k))
  b0k)
  (f0k (j0h a0c (a0a a0c a0d)))))))))
  (b0g a0c)))⟩) ?_
 rintro ss q ⟨n,many,most,rfl,hn,h1,h2,h3,h4,hq⟩
 refine⟨rfl,rfl,?_⟩
 have pm:2<=2^many/\2^many<=4096:=⟨Nat.pow_le_pow_right (n:=2) (by decide) h1,Nat.pow_le_pow_right (n:=2) (by decide) h2⟩
 have ep:(1:Int)*(2:Int)^((many:Int).toNat)=((2^many:Nat):Int):=by rw[j0l,Nat.shiftLeft_eq,Nat.one_mul]
 refine cutS (fun ρ=>ρ=[.tp n,nv many,nv most,.ow [],.un,.un,.un,.un]) (fun M hM=>⟨by simp,hM _ rfl⟩) ?_
 rintro _ rfl
 refine cutS (fun ρ=>∃rows n' s4 s5 s6 s7,e0u many rows/\n'<=n+200/\1<=rows.length/\ρ=[.tp n',nv many,nv most,.ow (a0p rows),s4,s5,s6,s7]) (fun M hM=>⟨rfl,n,most,rfl,by omega,Dv.small (by omega) (by omega),fun c hc=>⟨⟨by omega,by omega⟩,?_⟩⟩) ?_
 ·refine h0x (fun k ρ=>∃rows n' s4 s5 s6 s7,(∀r∈rows,1<=r/\r<2^many)/\rows.length=k/\n'<=n+1+8*k/\ρ=[.tp n',nv many,nv most,.ow (a0p rows),s4,s5,s6,s7]) (fun _ _ _=>trivial) ?_ ?_ ⟨[],n+1,.un,.un,.un,.un,(fun r hr=>nomatch hr),rfl,by omega,rfl⟩
  ·rintro k _ M1 hk ⟨rows,n0,s4,s5,s6,s7,hrows,hlen,hn0,rfl⟩ hM1
   have hk':k<25:=by omega
   have hne:∀r∈rows,r<4096:=fun r hr=>Nat.lt_of_lt_of_le (hrows r hr).2 pm.2
   refine cutS (fun ρ=>∃way:Nat,ρ=[.tp (n0+1),nv many,nv most,.ow (a0p rows),.vl (.int (0+(k:Int))),nv way,s6,s7]) (fun M2 hM2=>⟨rfl,n0,7,rfl,by omega,Dv.small (by decide) (by decide),fun r hr=>hM2 _ ⟨r,rfl⟩⟩) ?_
   rintro _ ⟨way,rfl⟩
   refine cutS (fun ρ=>∃r:Nat,1<=r/\r<2^many/\ρ=[.tp (n0+2),nv many,nv most,.ow (a0p rows),.vl (.int (0+(k:Int))),nv way,nv r,s7]) (fun M2 hM2=>⟨⟨by omega,by omega,by decide⟩,rfl,n0+1,(1:Int)*2^((many:Int).toNat) - 1,rfl,by omega,by rw[ep];exact Dv.small (by omega) (by omega),fun r hr=>?_⟩) ?_
   ·rw[ep]at hr
    exact hM2 _ ⟨1+r,by omega,by omega,by rw[<- t0z (show(1:Int)+(r:Int)=((1+r:Nat):Int)by omega)];rfl⟩
   rintro _ ⟨r,hr1,hr2,rfl⟩
   refine cutS (fun ρ=>∃r n1:Nat,1<=r/\r<2^many/\n1<=n0+3/\ρ=[.tp n1,nv many,nv most,.ow (a0p rows),.vl (.int (0+(k:Int))),nv way,nv r,s7]) (fun M2 hM2=>f0x rfl rfl (by simp[D.depth]) rfl (ite2 (fun _=>?_) fun _=>hM2 _ ⟨r,n0+2,hr1,hr2,by omega,rfl⟩)) ?_
   ·refine⟨rfl,n0+2,many,rfl,by omega,Dv.small (by omega) (by omega),fun x hx=>⟨⟨by omega,by omega,by decide⟩,hM2 _ ⟨2^x,n0+3,Nat.pos_of_ne_zero (by simp),Nat.pow_lt_pow_right (by decide) (by omega),by omega,?_⟩⟩⟩
    have e:(1:Int)*(2:Int)^((x:Int).toNat)=((2^x:Nat):Int):=by rw[j0l,Nat.shiftLeft_eq,Nat.one_mul]
    rw[<- t0z e];rfl
   rintro _ ⟨r,n1,hr1,hr2,hn1,rfl⟩
   refine cutS (fun ρ=>∃(r n2:Nat) (s7:Sv),1<=r/\r<2^many/\n2<=n1+2/\ρ=[.tp n2,nv many,nv most,.ow (a0p rows),.vl (.int (0+(k:Int))),nv way,nv r,s7]) (fun M2 hM2=>f0x rfl rfl (by simp[D.depth]) rfl (ite2 (fun _=>?_) fun _=>hM2 _ ⟨r,n1,s7,hr1,hr2,by omega,rfl⟩)) ?_
   ·refine⟨rfl,n1,many,rfl,by omega,Dv.small (by omega) (by omega),fun x hx=>?_⟩
    refine⟨rfl,n1+1,(many:Int) - (x:Int),rfl,by omega,Dv.small (by omega) (by omega),fun y hy=>?_⟩
    have e1:(1:Int)*(2:Int)^(((1:Int)+(y:Int)).toNat) - 1=((2^(1+y) - 1:Nat):Int):=by
     have:((1:Int)+(y:Int)).toNat=1+y:=by omega
     rw[this]
     have h2:=j0l (1+y)
     rw[Int.toNat_natCast,Nat.shiftLeft_eq,Nat.one_mul]at h2
     rw[h2]
     have:=Nat.two_pow_pos (1+y)
     omega
    have hy1:2<=2^(1+y):=Nat.pow_le_pow_right (n:=2) (by decide) (show 1<=1+y by omega)
    have hy2:2^(1+y)<=4096:=Nat.pow_le_pow_right (n:=2) (by decide) (show 1+y<=12 by omega)
    have hx1:1<=2^x:=Nat.two_pow_pos x
    have e2:((2^(1+y) - 1:Nat):Int)*(2:Int)^((x:Int).toNat)=(((2^(1+y) - 1)*2^x:Nat):Int):=by
     rw[Int.toNat_natCast,Int.natCast_mul,Int.natCast_pow];rfl
    refine⟨⟨by omega,by omega,by decide⟩,⟨by omega,by omega,?_⟩,hM2 _ ⟨(2^(1+y) - 1)*2^x,n1+2,nv x,?_,?_,by omega,?_⟩⟩
    ·show((1:Int)*(2:Int)^(((1:Int)+(y:Int)).toNat) - 1).natAbs<_
     rw[e1,Int.natAbs_natCast];omega
    ·exact Nat.mul_pos (by omega) hx1
    ·have h3:(2^(1+y) - 1)*2^x<2^(1+y)*2^x:=Nat.mul_lt_mul_of_pos_right (by omega) hx1
     rw[<- Nat.pow_add]at h3
     exact Nat.lt_of_lt_of_le h3 (Nat.pow_le_pow_right (by decide) (by omega))
    ·rw[<- t0z e2,<- e1];rfl
   rintro _ ⟨r,n2,s7,hr1,hr2,hn2,rfl⟩
   refine cutS (fun ρ=>∃(r n3:Nat),1<=r/\r<2^many/\n3<=n2+2/\ρ=[.tp n3,nv many,nv most,.ow (a0p rows),.vl (.int (0+(k:Int))),nv way,nv r,s7]) (fun M2 hM2=>ite2 (fun _=>⟨by simp,f0x rfl rfl (r0m _) rfl (ite2 (fun hh=>?_) fun _=>hM2 _ ⟨r,n2,hr1,hr2,by omega,rfl⟩)⟩) fun _=>hM2 _ ⟨r,n2,hr1,hr2,by omega,rfl⟩) ?_
   ·have hpos:0<rows.length:=by
     cases rows with
     | nil=>exact absurd hh (by decide +kernel)
     | cons _ _=>simp
    refine cutS (fun ρ=>∃(r:Nat),1<=r/\r<2^many/\ρ=[.tp (n2+1),nv many,nv most,.ow (a0p rows),.vl (.int (0+(k:Int))),nv way,nv r,s7]) (fun M3 hM3=>?_) ?_
    ·refine⟨rfl,n2,(((a0p rows).length:Nat):Int),rfl,by omega,by rw[a0x];exact Dv.small (by omega) (by omega),fun x hx=>?_⟩
     rw[a0x]at hx
     have hx':x<rows.length:=by omega
     have hm:=hrows (rows.getD x 0) (by rw[List.getD_eq_getElem?_getD,List.getElem?_eq_getElem hx'];exact List.getElem_mem hx')
     exact h0v rfl hx' (hM3 _ ⟨rows.getD x 0,hm.1,hm.2,rfl⟩)
    rintro _ ⟨r,hr1,hr2,rfl⟩
    refine ite2 (fun _=>?_) fun _=>hM2 _ ⟨r,n2+1,hr1,hr2,by omega,rfl⟩
    refine⟨rfl,n2+1,many,rfl,by omega,Dv.small (by omega) (by omega),fun x hx=>⟨⟨by omega,by omega,by decide⟩,?_⟩⟩
    have e:(1:Int)*(2:Int)^((x:Int).toNat)=((2^x:Nat):Int):=by rw[j0l,Nat.shiftLeft_eq,Nat.one_mul]
    have hx2:2^x<2^many:=Nat.pow_lt_pow_right (by decide) (by omega)
    have hxr:r ^^^ 2^x<2^many:=Nat.xor_lt_two_pow hr2 hx2
    refine hM2 _ ⟨max 1 (r ^^^ 2^x),n2+2,by omega,by omega,by omega,?_⟩
    have e2:(if Builtin.bitXor (r:Int) ((1:Int)*(2:Int)^((x:Int).toNat)) > 1 then Builtin.bitXor (r:Int) ((1:Int)*(2:Int)^((x:Int).toNat))else 1)=((max 1 (r ^^^ 2^x):Nat):Int):=by
     rw[e,u0y]
     split <;> omega
    rw[<- t0z e2];rfl
   rintro _ ⟨r,n3,hr1,hr2,hn3,rfl⟩
   refine⟨by rw[a0x];omega,hM1 _ ⟨rows++[r],n3,_,_,_,_,?_,by rw[List.length_append,hlen];rfl,by omega,by rw[i0i];rfl⟩⟩
   intro x hx
   rcases List.mem_append.mp hx with hx | hx
   ·exact hrows x hx
   ·rw[List.mem_singleton.mp hx];exact⟨hr1,hr2⟩
  ·rintro _ ⟨rows,n',s4,s5,s6,s7,hrows,hlen,hn',rfl⟩
   exact hM _ ⟨rows,n',s4,s5,s6,s7,⟨h1,h2,by omega,hrows⟩,by omega,by omega,rfl⟩
 rintro _ ⟨rows,n',s4,s5,s6,s7,hR,hn',hL,rfl⟩
 exact hq rows n' hR hn' hL
theorem i0g (dn:DefN K mg "_law_great_rows" c0x ["_law_tape_here"])(B:BI mg)(g_law_draw:OkN P w K mg base 1 "_law_draw" ["_law_tape_here", "_law_many"] (spA K y0t)):OkN P w K mg base 2 "_law_great_rows" ["_law_tape_here"] (spA K y0s):=by
 refine dn.aok2 (k:=1) b0r (fun j=>j==0) [.un,.un,.un,.un] y0s rfl (fun f cdv A outer s H E hr=>have hu:=f0d hr;⟨_,(a0f (b0c (i:=1) b0r.nd rfl (by first | exact Or.inl rfl | exact Or.inr rfl) (f0v a0e))
  (a0f (g0e PassesOwn.never rfl (d0w rfl B.range_ (a0b (b0d c0w a0h (c0f g_law_draw (hr.mono (by decide)) (a0b (pv 0) (a0b a0h a0e)))) a0e)) (a0t (i:=2) b0r.nd rfl (by first | exact Or.inl rfl | exact Or.inr rfl))
  (a0f (b0c (i:=3) b0r.nd rfl (by first | exact Or.inl rfl | exact Or.inr rfl) a0h)
  (a0f (g0e PassesOwn.never rfl (d0w rfl B.range_ (a0b (c0f g_law_draw (hr.mono (by decide)) (a0b (pv 0) (a0b a0h a0e))) a0e)) (a0t (i:=4) b0r.nd rfl (by first | exact Or.inl rfl | exact Or.inr rfl))
  (a0n (b0c (i:=3) b0r.nd rfl (by first | exact Or.inl rfl | exact Or.inr rfl) (b0d s0m (pv 3) (b0d b1x a0h (b0d l0n a0h (c0f g_law_draw (hr.mono (by decide)) (a0b (pv 0) (a0b a0h a0e)))))))))
  (a0n (h0d (l0l K PySem.F.plainAttrs_list PySem.F.slot_list_append PySem.F.type_list_append g0k (pv 1) (a0b (pv 3) a0e)))))))
  (a0n (b0t (pv 1))))),(a0k (a0u (d0y a0d) rfl)
  (a0k (e0l (pin:=(fun _=>false)) (d0r (a0a (a0j b0a a0g (a0q (a0a a0c (a0a a0g a0d)))) a0d)) (a0l rfl)
  (a0k (a0u a0g rfl)
  (a0k (e0l (pin:=(fun _=>false)) (d0r (a0a (a0q (a0a a0c (a0a a0g a0d))) a0d)) (a0l rfl)
  (a0u (a0j b0a a0c (a0j b0a a0g (a0j f0o a0g (a0q (a0a a0c (a0a a0g a0d)))))) rfl))
  (f0k (j0h a0c (a0a a0c a0d))))))
  (b0g a0c)))⟩) ?_
 rintro ss q ⟨n,rfl,hn,hq⟩
 refine⟨rfl,rfl,?_⟩
 refine cutS (fun ρ=>ρ=[.tp n,.ow [],.un,.un,.un]) (fun M hM=>⟨by simp,hM _ rfl⟩) ?_
 rintro _ rfl
 refine cutS (fun ρ=>∃rows n' s2 s3 s4,e0u 12 rows/\1<=rows.length/\n'<=n+200/\ρ=[.tp n',.ow (a0p rows),s2,s3,s4]) (fun M hM=>⟨rfl,n,12,rfl,by omega,Dv.small (by decide) (by decide),fun c hc=>⟨⟨by omega,by omega⟩,?_⟩⟩) ?_
 ·refine h0x (fun k ρ=>∃rows n' s2 s3 s4,(∀r∈rows,1<=r/\r<4096)/\rows.length=k/\n'<=n+1+3*k/\ρ=[.tp n',.ow (a0p rows),s2,s3,s4]) (fun _ _ _=>trivial) ?_ ?_ ⟨[],n+1,.un,.un,.un,(fun r hr=>nomatch hr),rfl,by omega,rfl⟩
  ·rintro k _ M1 hk ⟨rows,n0,s2,s3,s4,hrows,hlen,hn0,rfl⟩ hM1
   have hk':k<25:=by omega
   refine cutS (fun ρ=>ρ=[.tp n0,.ow (a0p rows),.vl (.int (0+(k:Int))),nv 4095,s4]) (fun M2 hM2=>hM2 _ rfl) ?_
   rintro _ rfl
   refine cutS (fun ρ=>∃r n1 s4,1<=r/\r<4096/\n1<=n0+3/\ρ=[.tp n1,.ow (a0p rows),.vl (.int (0+(k:Int))),nv r,s4]) (fun M2 hM2=>⟨rfl,n0,3,rfl,by omega,Dv.small (by decide) (by decide),fun c3 hc3=>⟨⟨by omega,by omega⟩,?_⟩⟩) ?_
   ·rw[Int.toNat_natCast]
    refine h0x (fun j ρ=>∃r s4,Gr j r/\ρ=[.tp (n0+1+j),.ow (a0p rows),.vl (.int (0+(k:Int))),nv r,s4]) (fun _ _ _=>trivial) ?_ ?_ ⟨4095,s4,rfl,rfl⟩
    ·rintro j _ M3 hj ⟨r,s4,hg,rfl⟩ hM3
     have hr:=h1z hg
     refine⟨rfl,n0+1+j,12,rfl,by omega,Dv.small (by decide) (by decide),fun x hx=>⟨⟨by omega,by omega,by decide⟩,hM3 _ ⟨r &&& (4095 ^^^ 2^x),.vl (.int (0+(j:Int))),e1m hg (by omega) (by omega),?_⟩⟩⟩
     have e:(1:Int)*(2:Int)^((x:Int).toNat)=((2^x:Nat):Int):=by rw[j0l,Nat.shiftLeft_eq,Nat.one_mul]
     have e2:Builtin.bitAnd (r:Int) (Builtin.bitXor ((4095:Nat):Int) ((1:Int)*(2:Int)^((x:Int).toNat)))=((r &&& (4095 ^^^ 2^x):Nat):Int):=by rw[e,u0y,r0s]
     rw[<- t0z e2];rfl
    ·rintro _ ⟨r,s4,hg,rfl⟩
     have hr:=h1z hg
     exact hM2 _ ⟨r,_,s4,hr.1,hr.2,by omega,rfl⟩
   rintro _ ⟨r,n1,s4',hr1,hr2,hn1,rfl⟩
   refine⟨by rw[a0x];omega,hM1 _ ⟨rows++[r],n1,_,_,_,fun x hx=>?_,by rw[List.length_append,hlen];rfl,by omega,by rw[i0i];rfl⟩⟩
   rcases List.mem_append.mp hx with hx | hx
   ·exact hrows x hx
   ·rw[List.mem_singleton.mp hx];exact⟨hr1,hr2⟩
  ·rintro _ ⟨rows,n',s2,s3,s4,hrows,hlen,hn',rfl⟩
   exact hM _ ⟨rows,n',s2,s3,s4,⟨by omega,by omega,by omega,hrows⟩,by omega,by omega,rfl⟩
 rintro _ ⟨rows,n',s2,s3,s4,hR,hL,hn',rfl⟩
 exact hq rows n' hR hL hn'
theorem q0t (dn:DefN K mg "_law_wish" g0p ["_law_tape_here"])(B:BI mg)(g_law_draw:OkN P w K mg base 1 "_law_draw" ["_law_tape_here", "_law_many"] (spA K y0t))(g_law_wish_rows:OkN P w K mg base 2 "_law_wish_rows" ["_law_tape_here", "_law_many", "_law_most"] (spA K y0p))(g_law_great_rows:OkN P w K mg base 2 "_law_great_rows" ["_law_tape_here"] (spA K y0s)):OkN P w K mg base 3 "_law_wish" ["_law_tape_here"] (spA K f1e):=by
 refine dn.aok2 (k:=2) f0l (fun j=>j==0) [.un,.un] f1e rfl (fun f cdv A outer s H E hr=>have hu:=f0d hr;⟨_,(a0f (f0a (a0v (j0x K hr.units) (c0f g_law_draw (hr.mono (by decide)) (a0b (pv 0) (a0b a0h a0e))) a0h (b0m _))
  (a0n (b0t (d0j (a0b a0h (a0b (e0r (d0o K) rfl B.tuple_ d0q (a0b (c0f g_law_great_rows (hr.mono (by decide)) (a0b (pv 0) a0e)) a0e)) a0e)))))
  c0b)
  (a0f (b0c (i:=1) f0l.nd rfl (by first | exact Or.inl rfl | exact Or.inr rfl) (b0d c0w a0h (c0f g_law_draw (hr.mono (by decide)) (a0b (pv 0) (a0b a0h a0e)))))
  (a0f (b0c (i:=2) f0l.nd rfl (by first | exact Or.inl rfl | exact Or.inr rfl) a0h)
  (a0f (f0a (PW.pt (i0o (a0v i0f (pv 1) a0h (b0m _)) (g0c (a0v i0f (c0f g_law_draw (hr.mono (by decide)) (a0b (pv 0) (a0b a0h a0e))) a0h (b0m _)))))
  (a0n (b0c (i:=2) f0l.nd rfl (by first | exact Or.inl rfl | exact Or.inr rfl) a0h))
  c0b)
  (a0n (b0t (d0j (a0b (pv 1) (a0b (e0r (d0o K) rfl B.tuple_ d0q (a0b (c0f g_law_wish_rows (hr.mono (by decide)) (a0b (pv 0) (a0b (pv 1) (a0b (pv 2) a0e)))) a0e)) a0e))))))))),(a0k (d0i (a0r (a0j j0z (a0q (a0a a0c (a0a a0g a0d))) a0g))
  (b0g (c0m (a0a a0g (a0a (b0j e0k (a0a (a0q (a0a a0c a0d)) a0d)) a0d))))
  b0k)
  (a0k (a0u (a0j b0a a0g (a0q (a0a a0c (a0a a0g a0d)))) rfl)
  (a0k (a0u a0g rfl)
  (a0k (d0i (f0i (a0r (a0j d0m a0c a0g)) (a0r (a0j d0m (a0q (a0a a0c (a0a a0g a0d))) a0g)))
  (a0u a0g rfl)
  b0k)
  (b0g (c0m (a0a a0c (a0a (b0j e0k (a0a (a0q (a0a a0c (a0a a0c (a0a a0c a0d)))) a0d)) a0d))))))))⟩) ?_
 rintro ss q ⟨n,rfl,hn,hq⟩
 refine⟨rfl,rfl,?_⟩
 refine cutS (fun ρ=>ρ=[.tp (n+1),.un,.un]) (fun M hM=>⟨rfl,n,4,rfl,by omega,Dv.small (by decide) (by decide),fun r hr=>f0x rfl rfl (by simp[D.depth]) rfl (ite2 (fun _=>⟨rfl,n+1,rfl,by omega,fun rows n' hR hL hn'=>⟨by simp,hq 12 rows n' hR hL (by omega)⟩⟩) fun _=>hM _ rfl)⟩) ?_
 rintro _ rfl
 refine cutS (fun ρ=>∃m:Nat,1<=m/\m<=12/\ρ=[.tp (n+2),nv m,.un]) (fun M hM=>⟨rfl,n+1,12,rfl,by omega,Dv.small (by decide) (by decide),fun r hr=>hM _ ⟨1+r,by omega,by omega,by rw[<- t0z (show(1:Int)+(r:Int)=((1+r:Nat):Int)by omega)];rfl⟩⟩) ?_
 rintro _ ⟨m,hm1,hm2,rfl⟩
 refine cutS (fun ρ=>ρ=[.tp (n+2),nv m,nv 24]) (fun M hM=>hM _ rfl) ?_
 rintro _ rfl
 refine cutS (fun ρ=>∃n1 most:Nat,n1<=n+3/\1<=most/\most<=24/\ρ=[.tp n1,nv m,nv most]) (fun M hM=>ite2 (fun _=>⟨rfl,n+2,12,rfl,by omega,Dv.small (by decide) (by decide),fun r hr=>ite2 (fun _=>hM _ ⟨n+3,8,by omega,by omega,by omega,rfl⟩) fun _=>hM _ ⟨n+3,24,by omega,by omega,by omega,rfl⟩⟩) fun _=>hM _ ⟨n+2,24,by omega,by omega,by omega,rfl⟩) ?_
 rintro _ ⟨n1,most,hn1,ho1,ho2,rfl⟩
 exact⟨rfl,n1,m,most,rfl,by omega,hm1,hm2,ho1,ho2,fun rows n' hR hn' hL=>⟨by simp,hq m rows n' hR hL (by omega)⟩⟩
end
theorem p0l {P:Nat->Bool}{b:Nat}(h:∀x,b<=x->P x=false):∀d,(List.range (b+d)).filter P=(List.range b).filter P
 | 0=>rfl
 | d+1=>by rw[<- Nat.add_assoc,List.range_succ,List.filter_append,p0l h d];simp[h (b+d) (by omega)]
theorem p0k {r m:Nat}(h1:1<=r)(h:r<2^m):(List.range m).filter r.testBit=b0q r:=by
 have h0:r≠0:=by omega
 have hb:f0s r=r.log2+1:=by unfold f0s;rw[if_neg h0]
 have hl:=(Nat.log2_lt h0).mpr h
 unfold b0q
 have:=p0l (P:=r.testBit) (b:=f0s r) (fun x hx=>Nat.testBit_lt_two_pow (Nat.lt_of_lt_of_le Nat.lt_log2_self (Nat.pow_le_pow_right (by decide) (by omega)))) (m - f0s r)
 rw[show f0s r+(m - f0s r)=m by omega]at this
 exact this
theorem e1w {rows:List Nat}(h:∀r∈rows,1<=r/\r<4096)(hl:rows.length<=24):cost rows<=300:=by
 have:∀rows:List Nat,(∀r∈rows,1<=r/\r<4096)->cost rows<=rows.length*12:=by
  intro rows
  induction rows with
  | nil=>intro _;exact Nat.zero_le _
  | cons r rows ih =>
   intro h
   have h1:=c1f (h r List.mem_cons_self).2
   have h2:cost (r::rows)=((b0q r).length - 1)+cost rows:=by unfold cost;simp
   have h3:=ih fun x hx=>h x (List.mem_cons_of_mem _ hx)
   rw[h2,List.length_cons];omega
 have:=this rows h
 omega
theorem r0w {kvs:List ((Nat×Nat)×Int)}{ps:List (Nat×Nat)}(h:Tal kvs ps){p:Nat×Nat}(hp:p∈ps):valD (dtP kvs) (keyP p)=some (.int ((ps.count p:Nat):Int)):=by
 have v:=q0f h p
 have:(valD (dtP kvs) (keyP p)).isSome=true:=by
  rw[n0j,Option.isSome_map]
  obtain⟨e,he,ep⟩:=h.2 p hp
  rw[List.find?_isSome]
  exact⟨e,he,decide_eq_true ep⟩
 obtain⟨x,hx⟩:=Option.isSome_iff_exists.mp this
 rw[hx]at v ⊢
 exact congrArg some v
def f0b (t:List Nat)(k:Nat):List (Nat×Nat):=(List.range k).flatMap fun k=>(t.drop (k+1)).map fun y=>(t.getD k 0,y)
theorem j0u (t:List Nat)(k:Nat):f0b t (k+1)=f0b t k++(t.drop (k+1)).map fun y=>(t.getD k 0,y):=by
 unfold f0b
 rw[List.range_succ,List.flatMap_append,List.flatMap_singleton]
theorem t0w {t:List Nat}{p:Nat×Nat}(h:p∈pairsN t):p.1∈t/\p.2∈t:=by
 unfold pairsN at h
 obtain⟨k,hk,h⟩:=List.mem_flatMap.mp h
 obtain⟨y,hy,rfl⟩:=List.mem_map.mp h
 have:=List.mem_range.mp hk
 refine⟨?_,List.mem_of_mem_drop hy⟩
 show t.getD k 0∈t
 rw[List.getD_eq_getElem?_getD,List.getElem?_eq_getElem this];exact List.getElem_mem this
theorem o0i {held:List (List Nat)}(hl:held.length<=24)(ht:∀t∈held,t.length<=12):(held.flatMap pairsN).length<=3456:=by
 have go:∀held:List (List Nat),(∀t∈held,t.length<=12)->(held.flatMap pairsN).length<=held.length*144:=by
  intro held
  induction held with
  | nil=>intro _;simp
  | cons t held ih =>
   intro h
   have h1:=ih fun t' z=>h t' (List.mem_cons_of_mem _ z)
   have h2:=h t (List.mem_cons_self ..)
   have h3:=g0h (xs:=t) (k:=t.length) h2
   have h4:t.length*12<=144:=by omega
   rw[List.flatMap_cons,List.length_append,List.length_cons]
   have h5:(pairsN t).length<=t.length*12:=h3
   omega
 have:=go held ht
 omega
def optP:Option (Nat×Nat)->D
 | none=>.non
 | some p=>L2.b0h p
def i0b (ps S:List (Nat×Nat)):Option (Nat×Nat)->Prop
 | none=>S=[]
 | some p=>p∈S/\∀p'∈S,ps.count p'<ps.count p∨(ps.count p'=ps.count p/\leP p p')
theorem u0v {ps:List (Nat×Nat)}{p:Nat×Nat}:i0b ps ([]++[p]) (some p):=⟨by simp,fun p' h=>by
 have:p'=p:=by simpa using h
 subst this;exact .inr ⟨rfl,.inr ⟨rfl,Nat.le_refl _⟩⟩⟩
theorem a1t {ps S:List (Nat×Nat)}{p c:Nat×Nat}(h:i0b ps S (some c))(g:ps.count c<ps.count p):i0b ps (S++[p]) (some p):=by
 refine⟨by simp,fun p' hp'=>?_⟩
 rcases List.mem_append.mp hp' with z | z
 ·rcases h.2 p' z with y | y
  ·exact .inl (by omega)
  ·exact .inl (by omega)
 ·rw[List.mem_singleton.mp z];exact .inr ⟨rfl,.inr ⟨rfl,Nat.le_refl _⟩⟩
theorem a1s {ps S:List (Nat×Nat)}{p c:Nat×Nat}(h:i0b ps S (some c))(g:¬ps.count c<ps.count p)(hs:∀x∈S,leP x p):i0b ps (S++[p]) (some c):=by
 refine⟨List.mem_append_left _ h.1,fun p' hp'=>?_⟩
 rcases List.mem_append.mp hp' with z | z
 ·exact h.2 p' z
 ·rw[List.mem_singleton.mp z]
  rcases Nat.lt_or_ge (ps.count p) (ps.count c)with y | y
  ·exact .inl y
  ·exact .inr ⟨by omega,hs c h.1⟩
def a1y:ASp:=fun ss q=>∃held:List (List Nat),ss=[.ow (held.map lstN)]/\held.length<=24/\(∀t∈held,t.length<=12)/\(∀t∈held,∀x∈t,x<1000)/\((∃t∈held,2<=t.length)->q (.d (L2.b0h (coF held))) [.ow (held.map lstN)])/\((∀t∈held,t.length<=1)->q (.d .non) [.ow (held.map lstN)])
def SDue:ASp:=fun ss q=>∃(m:Nat) (rows:List Nat),ss=[nv m,.vl (.tup (a0p rows))]/\e0u m rows/\(c0p (runP m rows 132)->q (.d (netD (g0i m rows))) [nv m,.vl (.tup (a0p rows))])/\(¬c0p (runP m rows 132)->q (.d .non) [nv m,.vl (.tup (a0p rows))])
section
variable {P:Program}{w:World}{K:PySem.W.Frag}{mg:Str->Option Value}{base:Heap}
theorem q0x (dn:DefN K mg "_law_best" g0t ["_law_held"])(B:BI mg):OkN P w K mg base 1 "_law_best" ["_law_held"] (spA K a1y):=by
 refine dn.aok2 (k:=0) c0n (fun j=>j==0) [.un,.un,.un,.un,.un,.un] a1y rfl (fun f cdv A outer s H E hr=>have hu:=f0d hr;⟨_,(a0f (b0c (i:=1) c0n.nd rfl (by first | exact Or.inl rfl | exact Or.inr rfl) s0i)
  (a0f (g0e PassesOwn.never rfl (b0u K (pv 0)) (a0t (i:=2) c0n.nd rfl (by first | exact Or.inl rfl | exact Or.inr rfl))
  (a0n (g0e PassesOwn.never rfl (d0w rfl B.range_ (a0b (a0m (b0e K) rfl B.len_ d0d (a0b (pv 2) a0e)) a0e)) (a0t (i:=3) c0n.nd rfl (by first | exact Or.inl rfl | exact Or.inr rfl))
  (a0n (g0e PassesOwn.never rfl (b0u K (m0q (m0j K) (pv 2) (q0l (b0d c0w (pv 3) a0h)) q0m)) (a0t (i:=4) c0n.nd rfl (by first | exact Or.inl rfl | exact Or.inr rfl))
  (a0n (j0r hu (pv 1) (d0j (a0b (g0g (c0o K) (pv 2) (pv 3) (fun _ _=>rfl)) (a0b (pv 4) a0e))) (b0d c0w (s0j hu (pv 1) (d0j (a0b (g0g (c0o K) (pv 2) (pv 3) (fun _ _=>rfl)) (a0b (pv 4) a0e))) a0h ⟨rfl,rfl,rfl,rfl⟩) a0h) rfl)))))))
  (a0f (b0c (i:=5) c0n.nd rfl (by first | exact Or.inl rfl | exact Or.inr rfl) h0p)
  (a0f (g0e PassesOwn.never rfl (b0u K (z0t rfl rfl B.sorted_ (pv 1))) (a0t (i:=6) c0n.nd rfl (by first | exact Or.inl rfl | exact Or.inr rfl))
  (a0n (f0a (PW.pt (o0h (a0v b1y (pv 5) h0p (b0m _)) (o0g (a0v i0f (h0f hu (pv 1) (pv 6) (fun _ _=>rfl)) (h0f hu (pv 1) (pv 5) (fun _ _=>rfl)) (b0m _)))))
  (a0n (b0c (i:=5) c0n.nd rfl (by first | exact Or.inl rfl | exact Or.inr rfl) (pv 6)))
  c0b)))
  (a0n (b0t (pv 5))))))),(a0k (a0u n0x rfl)
  (a0k (e0l (pin:=(fun j=>j==0)) (b0i a0c) (a0l rfl)
  (e0l (pin:=(fun _=>false)) (d0r (a0a (b0j b0w (a0a a0c a0d)) a0d)) (a0l rfl)
  (e0l (pin:=(fun _=>false)) (b0i (v0e a0c (n0w (a0j b0a a0c a0g)) v0c)) (a0l rfl)
  (v0w (a0j b0a (l0g a0c (c0m (a0a (a0j e0h a0c a0c) (a0a a0c a0d))) a0g) a0g) a0c (a0a (a0j e0h a0c a0c) (a0a a0c a0d))))))
  (a0k (a0u f0j rfl)
  (a0k (e0l (pin:=(fun _=>false)) (b0i (v0d a0c)) (a0l rfl)
  (d0i (f0y (a0r (a0j w0q a0c f0j)) (a0r (a0j d0m (n0y a0c a0c) (n0y a0c a0c))))
  (a0u a0c rfl)
  b0k))
  (b0g a0c)))))⟩) ?_
 rintro ss q ⟨held,rfl,hl,hlt,hx,hq1,hq2⟩
 refine⟨rfl,rfl,?_⟩
 have hfew:=o0i hl hlt
 refine cutS (fun ρ=>ρ=[.ow (held.map lstN),.dt (dtP []),.un,.un,.un,.un,.un]) (fun M hM=>hM _ rfl) ?_
 rintro _ rfl
 refine cutS (fun ρ=>∃kvs s2 s3 s4,Tal kvs (held.flatMap pairsN)/\kvs.length<=(held.flatMap pairsN).length/\ρ=[.ow (held.map lstN),.dt (dtP kvs),s2,s3,s4,.un,.un]) (fun M hM=>⟨rfl,g0w lstN (fun i ρ=>∃kvs s2 s3 s4,Tal kvs ((held.take i).flatMap pairsN)/\kvs.length<=((held.take i).flatMap pairsN).length/\ρ=[.ow (held.map lstN),.dt (dtP kvs),s2,s3,s4,.un,.un]) ?_ ?_ ?_ ⟨[],.un,.un,.un,⟨(fun e h=>by cases h),(fun p h=>by cases h)⟩,by simp,rfl⟩⟩) ?_
 ·rintro i ρ ⟨kvs,s2,s3,s4,_,_,rfl⟩;rfl
 ·rintro i t _ M1 hi ⟨kvs,s2,s3,s4,hk1,hk2,rfl⟩ hM1
  have ht:=List.mem_of_getElem? hi
  have htl:=hlt t ht
  have esn:(held.take (i+1)).flatMap pairsN=(held.take i).flatMap pairsN++pairsN t:=by rw[List.take_add_one,hi,Option.toList_some,List.flatMap_append,List.flatMap_singleton]
  have hpre:((held.take (i+1)).flatMap pairsN).length<=3456:=o0i (by rw[List.length_take];omega) fun t' z=>hlt t' (List.mem_of_mem_take z)
  rw[esn,List.length_append]at hpre
  show aFor _ _ _ _ [.ow (held.map lstN),.dt (dtP kvs),.vl (lstN t),s3,s4,.un,.un]
  refine⟨⟨by omega,by rw[a0x];omega⟩,?_⟩
  rw[a0x,Int.toNat_natCast]
  refine h0x (fun k ρ=>∃kvs s3 s4,Tal kvs ((held.take i).flatMap pairsN++f0b t k)/\kvs.length<=((held.take i).flatMap pairsN++f0b t k).length/\ρ=[.ow (held.map lstN),.dt (dtP kvs),.vl (lstN t),s3,s4,.un,.un]) (fun _ _ _=>trivial) ?_ ?_ ⟨kvs,s3,s4,by simpa [f0b] using hk1,by simpa [f0b] using hk2,rfl⟩
  ·rintro k _ M2 hk ⟨kvs,s3,s4,a1,a2,rfl⟩ hM2
   rw[Int.zero_add]
   have hkl:(f0b t k).length<=144:=Nat.le_trans (g0h (xs:=t) (k:=k) htl) (by have:k*12<=12*12:=Nat.mul_le_mul (by omega) (Nat.le_refl _);omega)
   have hpre2:((held.take i).flatMap pairsN).length<=3456:=by omega
   show aFor _ _ _ _ [.ow (held.map lstN),.dt (dtP kvs),.vl (lstN t),nv k,s4,.un,.un]
   have ecut:L2.cutD (a0p t) (some ((k:Int)+1)) none=a0p (t.drop (k+1)):=by
    rw[show(k:Int)+1=((k+1:Nat):Int)by omega,p0p]
    unfold a0p;rw[List.map_drop]
   show forA _ _ _ _ (L2.cutD (a0p t) (some ((k:Int)+1)) none) _
   rw[ecut]
   refine g0w nD (fun j ρ=>∃kvs s4,Tal kvs ((held.take i).flatMap pairsN++f0b t k++((t.drop (k+1)).take j).map fun y=>(t.getD k 0,y))/\kvs.length<=((held.take i).flatMap pairsN++f0b t k).length+j/\ρ=[.ow (held.map lstN),.dt (dtP kvs),.vl (lstN t),nv k,s4,.un,.un]) (fun _ _ _=>trivial) ?_ ?_ ⟨kvs,s4,by simpa using a1,by omega,rfl⟩
   ·rintro j y _ M3 hj ⟨kvs,s4,b1,b2,rfl⟩ hM3
    have hjl:=(List.getElem?_eq_some_iff.mp hj).1
    rw[List.length_drop]at hjl
    have es2:(held.take i).flatMap pairsN++f0b t k++((t.drop (k+1)).take (j+1)).map (fun y=>(t.getD k 0,y))=((held.take i).flatMap pairsN++f0b t k++((t.drop (k+1)).take j).map fun y=>(t.getD k 0,y))++[(t.getD k 0,y)]:=by
     rw[List.take_add_one,hj,Option.toList_some,List.map_append];simp only[List.append_assoc];rfl
    rw[es2]at hM3
    rw[List.length_append]at b2
    generalize ((held.take i).flatMap pairsN++f0b t k++((t.drop (k+1)).take j).map fun y=>(t.getD k 0,y))=ps at b1 hM3
    have tv:=q0f b1 (t.getD k 0,y)
    have tp:=v0l kvs (t.getD k 0,y) (((ps.count (t.getD k 0,y):Nat):Int)+1)
    have pln:=s0e kvs (t.getD k 0,y) (((ps.count (t.getD k 0,y):Nat):Int)+1)
    have hkt:k<t.length:=by omega
    refine h0v (i:=k) (xs:=t) rfl hkt ⟨by simp,?_⟩
    refine n0f (k:=keyP (t.getD k 0,y)) rfl ?_
    rw[tv]
    refine h0v (i:=k) (xs:=t) rfl hkt ⟨by simp,by unfold dtP;rw[List.length_map];omega,hM3 _ ⟨_,nv y,b1.snoc _,by rw[List.length_append];omega,by rw[<- tp];rfl⟩⟩
   ·rintro _ ⟨kvs,s4,b1,b2,rfl⟩
    rw[List.take_length]at b1
    refine hM2 _ ⟨kvs,nv k,s4,?_,?_,rfl⟩
    ·rw[j0u,<- List.append_assoc];exact b1
    ·rw[j0u,<- List.append_assoc,List.length_append,List.length_map];exact b2
  ·rintro _ ⟨kvs,s3,s4,a1,a2,rfl⟩
   exact hM1 _ ⟨kvs,_,s3,s4,by rw[esn];exact a1,by rw[esn];exact a2,rfl⟩
 ·rintro _ ⟨kvs,s2,s3,s4,hk1,hk2,rfl⟩
  rw[List.take_length]at hk1 hk2
  exact hM _ ⟨kvs,s2,s3,s4,hk1,hk2,rfl⟩
 rintro _ ⟨kvs,s2,s3,s4,hk1,hk2,rfl⟩
 refine cutS (fun ρ=>ρ=[.ow (held.map lstN),.dt (dtP kvs),s2,s3,s4,.vl .non,.un]) (fun M hM=>hM _ rfl) ?_
 rintro _ rfl
 have hmem:∀p,p∈kvs.map Prod.fst↔p∈held.flatMap pairsN:=fun p=>by
  constructor
  ·intro z
   obtain⟨e,he,rfl⟩:=List.mem_map.mp z
   exact(hk1.1 e he).1
  ·intro z
   obtain⟨e,he,rfl⟩:=hk1.2 p z
   exact List.mem_map.mpr ⟨e,he,rfl⟩
 refine cutS (fun ρ=>∃b s6,i0b (held.flatMap pairsN) (kvs.map Prod.fst) b/\ρ=[.ow (held.map lstN),.dt (dtP kvs),s2,s3,s4,.vl (optP b),s6]) (fun M hM=>?_) ?_
 ·refine⟨kvs.map Prod.fst,by unfold dtP;rw[List.map_map,List.map_map];rfl,by rw[List.length_map];omega,fun p hp=>?_,fun S pm so=>?_⟩
  ·obtain⟨t,ht,z⟩:=List.mem_flatMap.mp ((hmem p).mp hp)
   have:=hx t ht p.2 (t0w z).2
   omega
  ·have fin:∀b,i0b (held.flatMap pairsN) S b->i0b (held.flatMap pairsN) (kvs.map Prod.fst) b:=fun b hb=>by
    cases b with
    | none =>
     have hb:S=[]:=hb
     subst hb
     exact List.nil_perm.mp pm
    | some p=>exact⟨pm.mem_iff.mp hb.1,fun p' z=>hb.2 p' (pm.mem_iff.mpr z)⟩
   refine g0w pP (fun j ρ=>∃b s6,i0b (held.flatMap pairsN) (S.take j) b/\ρ=[.ow (held.map lstN),.dt (dtP kvs),s2,s3,s4,.vl (optP b),s6]) (fun _ _ _=>trivial) ?_ ?_ ⟨none,.un,rfl,rfl⟩
   ·rintro j p _ M2 hj ⟨b,s6,hb,rfl⟩ hM2
    have hp:p∈held.flatMap pairsN:=(hmem p).mp (pm.mem_iff.mp (List.mem_of_getElem? hj))
    have et:S.take (j+1)=S.take j++[p]:=by rw[List.take_add_one,hj];rfl
    rw[et]at hM2
    show aIfS _ _ _ _ [.ow (held.map lstN),.dt (dtP kvs),s2,s3,s4,.vl (optP b),.vl (pP p)]
    cases b with
    | none =>
     have hb:S.take j=[]:=hb
     rw[hb]at hM2
     exact hM2 _ ⟨some p,.vl (pP p),u0v,rfl⟩
    | some c =>
     have hc:c∈held.flatMap pairsN:=(hmem c).mp (pm.mem_iff.mp (List.mem_of_mem_take hb.1))
     have v1:=r0w hk1 hp
     have v2:=r0w hk1 hc
     have hs:∀x∈S.take j,leP x p:=fun x hx'=>by
      obtain⟨i,hi,rfl⟩:=List.getElem_of_mem hx'
      rw[List.length_take]at hi
      rw[List.getElem_take]
      have hjl:=(List.getElem?_eq_some_iff.mp hj)
      have:=List.pairwise_iff_getElem.mp so i j (by omega) hjl.1 (by omega)
      rw[hjl.2]at this
      exact this
     refine s0z (k:=keyP p) rfl v1 (s0z (k:=keyP c) rfl v2 (ite2 (fun g=>?_) fun g=>?_))
     ·have g':(held.flatMap pairsN).count c<(held.flatMap pairsN).count p:=by have:=of_decide_eq_true g;omega
      exact hM2 _ ⟨some p,.vl (pP p),a1t hb g',rfl⟩
     ·have g':¬(held.flatMap pairsN).count c<(held.flatMap pairsN).count p:=fun z=>g (decide_eq_true (by omega))
      exact hM2 _ ⟨some c,.vl (pP p),a1s hb g' hs,rfl⟩
   ·rintro _ ⟨b,s6,hb,rfl⟩
    rw[List.take_length]at hb
    exact hM _ ⟨b,s6,fin b hb,rfl⟩
 rintro _ ⟨b,s6,hb,rfl⟩
 cases b with
 | none =>
  have hb:kvs.map Prod.fst=[]:=hb
  refine hq2 fun t ht=>?_
  rcases Nat.lt_or_ge 1 t.length with z | z
  ·obtain⟨p,hp⟩:=List.exists_mem_of_length_pos (i0e z)
   have:=(hmem p).mpr (List.mem_flatMap.mpr ⟨t,ht,hp⟩)
   rw[hb]at this;cases this
  ·omega
 | some p =>
  have hI:IsCo (held.flatMap pairsN) p:=⟨(hmem p).mp hb.1,fun p' z=>hb.2 p' ((hmem p').mpr z)⟩
  have hex:∃t∈held,2<=t.length:=by
   obtain⟨t,ht,hp⟩:=List.mem_flatMap.mp hI.1
   refine⟨t,ht,?_⟩
   unfold pairsN at hp
   obtain⟨k,hk,h⟩:=List.mem_flatMap.mp hp
   obtain⟨y,hy,_⟩:=List.mem_map.mp h
   have:=List.length_pos_of_mem hy
   rw[List.length_drop]at this
   omega
  have:=hq1 hex
  unfold coF at this
  rw[t0e hI]at this
  exact this
theorem t0x (dn:DefN K mg "_law_put" g0b ["_law_things", "_law_pair", "_law_thing"])(B:BI mg):OkN P w K mg base 1 "_law_put" ["_law_things", "_law_pair", "_law_thing"] (spA K k0t):=by
 refine dn.aok2 (k:=0) t0s (fun j=>j==0||j==1||j==2) [] k0t rfl (fun f cdv A outer s H E hr=>have hu:=f0d hr;⟨_,(a0f (f0a (PW.pt (i0o (a0v (g0u K) (g0g (c0o K) (pv 1) a0h (fun _ _=>rfl)) (pv 0) rfl) (g0c (a0v (g0u K) (g0g (c0o K) (pv 1) a0h (fun _ _=>rfl)) (pv 0) rfl))))
  (a0n (b0t (b0d (j0y K) (e0c ["_law_one"] [1] rfl (Blk.of (a0i g0b) l0q) (b0u K (pv 0)) (fun _ _ _ _ nd=>(a0t (i:=0) nd rfl (by first | exact Or.inl rfl | exact Or.inr rfl))) (fun _ _ _ _=>(j0n (a0v (h0q K) (pv 0) (pv 1) rfl))) (fun _ _ _ _=>(pv 0))) (f0v (a0b (pv 2) a0e)))))
  c0b)
  (a0n (b0t (pv 0)))),(a0k (d0i (f0i (a0r (a0j (l0o false) (a0j e0h a0c a0g) a0c)) (a0r (a0j (l0o false) (a0j e0h a0c a0g) a0c)))
  (b0g (a0j k0a (b0p (b0i a0c) (a0l rfl) (a0r (a0j (l0o true) a0c a0c)) a0c) (d0y (a0a a0c a0d))))
  b0k)
  (b0g a0c))⟩) ?_
 rintro ss q ⟨t,p,n,rfl,hl,h1,h2⟩
 refine⟨rfl,rfl,?_⟩
 refine l0a (i:=0) (ds:=[nD p.1,nD p.2]) (d:=nD p.1) rfl rfl (t0a (xs:=t) rfl ?_)
 cases c1:t.contains p.1 with
 | false=>exact h2 fun z=>by rw[List.contains_iff_mem.mpr z.1]at c1;cases c1
 | true =>
  refine l0a (i:=1) (ds:=[nD p.1,nD p.2]) (d:=nD p.2) rfl rfl (t0a (xs:=t) rfl ?_)
  cases c2:t.contains p.2 with
  | false=>exact h2 fun z=>by rw[List.contains_iff_mem.mpr z.2]at c2;cases c2
  | true =>
   have hp:p.1∈t/\p.2∈t:=⟨List.contains_iff_mem.mp c1,List.contains_iff_mem.mp c2⟩
   have h3:=h1 hp
   unfold c0e at h3
   rw[if_pos hp]at h3
   refine⟨by rw[a0x];omega,?_⟩
   refine e0t (fun k acc ρ=>acc=a0p ((t.take k).filter fun x=>!([p.1,p.2].contains x))/\ρ=[.vl (lstN t),.vl (L2.b0h p),nv n]) ?_ ?_ ?_ _ ⟨rfl,rfl⟩
   ·rintro k acc ρ _ ⟨_,rfl⟩;first | rfl | trivial
   ·rintro k d acc _ M3 hk ⟨rfl,rfl⟩ hM3
    unfold a0p at hk
    rw[List.getElem?_map]at hk
    obtain⟨x,et,rfl⟩:=Option.map_eq_some_iff.mp hk
    have fs:=j0d (fun x=>!([p.1,p.2].contains x)) (t.take k) x
    rw[show t.take k++[x]=t.take (k+1)by rw[List.take_add_one,et];rfl]at fs
    refine c1g (xs:=[p.1,p.2]) rfl ?_
    cases e:[p.1,p.2].contains x with
    | true=>exact hM3 _ _ ⟨by rw[fs,e];rfl,rfl⟩
    | false=>exact hM3 _ _ ⟨by rw[fs,e];rfl,rfl⟩
   ·rintro acc _ ⟨rfl,rfl⟩
    rw[a0x,List.take_length]
    have fl:=List.length_filter_le (fun x=>!([p.1,p.2].contains x)) t
    refine⟨by simp,by rw[a0x];show _+1<=_;omega,?_⟩
    unfold a0p at h3 ⊢
    rw[List.map_append]at h3
    exact h3
theorem t0y (dn:DefN K mg "_law_due" d0v ["_law_many", "_law_rows"])(B:BI mg)(g_law_best:OkN P w K mg base 1 "_law_best" ["_law_held"] (spA K a1y))(g_law_put:OkN P w K mg base 1 "_law_put" ["_law_things", "_law_pair", "_law_thing"] (spA K k0t)):OkN P w K mg base 2 "_law_due" ["_law_many", "_law_rows"] (spA K SDue):=by
 refine dn.aok2 (k:=1) e0j (fun j=>j==0||j==1) [.un,.un,.un] SDue rfl (fun f cdv A outer s H E hr=>have hu:=f0d hr;⟨_,(a0f (z0r (i:=2) ["_law_row"] [0] e0j.nd rfl (by first | exact Or.inl rfl | exact Or.inr rfl) rfl (BlkC.of (a0i d0v) g0v) (b0u K (pv 1)) (fun _ _ _ _ nd=>(a0t (i:=0) nd rfl (by first | exact Or.inl rfl | exact Or.inr rfl))) (fun _ _ _ _=>c0r) (fun _ _ _ _=>(e0c ["_law_k"] [0] rfl (Blk.inC (a0i d0v) ["_law_row", "_law_many"]) (d0w rfl B.range_ (a0b (pv 1) a0e)) (fun _ _ _ _ nd=>(a0t (i:=0) nd rfl (by first | exact Or.inl rfl | exact Or.inr rfl))) (fun _ _ _ _=>(j0n (a0v (j0x K hr.units) (b0d s0m (b0d w0n (pv 1) (pv 0)) a0h) a0h (b0m _)))) (fun _ _ _ _=>(pv 0)))))
  (a0f (b0c (i:=3) e0j.nd rfl (by first | exact Or.inl rfl | exact Or.inr rfl) (f0v a0e))
  (a0f (b0c (i:=4) e0j.nd rfl (by first | exact Or.inl rfl | exact Or.inr rfl) (c0f g_law_best (hr.mono (by decide)) (a0b (pv 2) a0e)))
  (a0f (s0g PassesOwn.never (PW.pt (i0o (a0v q0r (pv 4) h0p (b0m _)) (g0c (a0v d1u (a0m (b0e K) rfl B.len_ d0d (a0b (pv 3) a0e)) a0h (b0m _)))))
  (a0f (j0q (i:=2) ["_law_things"] [4,0,3] e0j.nd rfl (by first | exact Or.inl rfl | exact Or.inr rfl) rfl (Blk.of (a0i d0v) g0v) (b0u K (pv 2)) (fun _ _ _ _ nd=>(a0t (i:=0) nd rfl (by first | exact Or.inl rfl | exact Or.inr rfl))) (fun _ _ _ _=>c0r) (fun _ _ _ _=>(c0f g_law_put (hr.mono (by decide)) (a0b (pv 0) (a0b (pv 1) (a0b (b0d c0w (pv 2) (a0m (b0e K) rfl B.len_ d0d (a0b (pv 3) a0e))) a0e))))))
  (a0f (h0d (l0l K PySem.F.plainAttrs_list PySem.F.slot_list_append PySem.F.type_list_append g0k (pv 3) (a0b (pv 4) a0e)))
  (a0n (b0c (i:=4) e0j.nd rfl (by first | exact Or.inl rfl | exact Or.inr rfl) (c0f g_law_best (hr.mono (by decide)) (a0b (pv 2) a0e)))))))
  (a0f (f0a (a0v i0f (a0m (b0e K) rfl B.len_ d0d (a0b (pv 3) a0e)) a0h (b0m _))
  (a0n (b0t h0p))
  c0b)
  (a0n (b0t (d0j (a0b (pv 0) (a0b (e0r (d0o K) rfl B.tuple_ d0q (a0b (pv 3) a0e)) (a0b (e0r (d0o K) rfl B.tuple_ d0q (a0b (e0c ["_law_things"] [] rfl (Blk.of (a0i d0v) g0v) (b0u K (pv 2)) (fun _ _ _ _ nd=>(a0t (i:=0) nd rfl (by first | exact Or.inl rfl | exact Or.inr rfl))) (fun _ _ _ _=>c0r) (fun _ _ _ _=>(g0g (c0o K) (pv 0) a0h (fun _ _=>rfl)))) a0e)) a0e))))))))))),(a0k (g0o (b0p (b0i a0c) (a0l rfl) b0y (b0p (d0r (a0a a0c a0d)) (a0l rfl) (a0r (a0j j0z (a0j b0a (a0j f0o a0c a0c) a0g) a0g)) a0c)) rfl)
  (a0k (a0u (d0y a0d) rfl)
  (a0k (a0u (a0q (a0a a0c a0d)) rfl)
  (a0k (j0k (f0i (a0r (a0j m0t a0c f0j)) (a0r (a0j d0m (b0j b0w (a0a a0c a0d)) a0g)))
  (a0k (g0o (b0p (b0i a0c) (a0l rfl) b0y (a0q (a0a a0c (a0a a0c (a0a (a0j b0a a0c (b0j b0w (a0a a0c a0d))) a0d))))) rfl)
  (a0k (f0k (j0h a0c (a0a a0c a0d)))
  (a0u (a0q (a0a a0c a0d)) rfl))))
  (a0k (d0i (a0r (a0j d0m (b0j b0w (a0a a0c a0d)) a0g))
  (b0g f0j)
  b0k)
  (b0g (c0m (a0a a0c (a0a (b0j e0k (a0a a0c a0d)) (a0a (b0j e0k (a0a (b0p (b0i a0c) (a0l rfl) b0y (a0j e0h a0c a0g)) a0d)) a0d))))))))))⟩) ?_
 rintro ss q ⟨m,rows,rfl,hR,hq1,hq2⟩
 obtain⟨m1,m2,rl,hr⟩:=id hR
 have p12:2^m<=4096:=Nat.pow_le_pow_right (n:=2) (by decide) m2
 refine⟨rfl,rfl,?_⟩
 refine cutS (fun ρ=>ρ=[nv m,.vl (.tup (a0p rows)),.ow ((rows.map b0q).map lstN),.un,.un]) (fun M hM=>⟨by rw[a0x];omega,?_⟩) ?_
 ·refine c0c nD (fun r=>lstN (b0q r)) (by first | rfl | trivial) (fun r acc M3 hr' hM3=>?_) (hM _ ?_)
  ·refine⟨⟨by omega,by omega⟩,by rw[e0v];omega,?_⟩
   rw[Int.toNat_natCast]
   refine e0t (fun j acc ρ=>acc=a0p ((List.range j).filter r.testBit)/\ρ=[nv r,nv m]) ?_ ?_ ?_ _ ⟨rfl,rfl⟩
   ·rintro j acc ρ _ ⟨_,rfl⟩;first | rfl | trivial
   ·rintro j d acc _ M4 hj ⟨rfl,rfl⟩ hM4
    obtain⟨lt,rfl⟩:=j0a hj
    rw[Int.zero_add]
    have fs:=j0d r.testBit (List.range j) j
    rw[<- List.range_succ]at fs
    refine⟨Int.natCast_nonneg _,f0x rfl rfl (by simp[D.depth]) (c1n r j) ?_⟩
    cases e:r.testBit j with
    | false=>exact hM4 _ _ ⟨by rw[fs,e];rfl,rfl⟩
    | true=>exact hM4 _ _ ⟨by rw[fs,e];rfl,rfl⟩
   ·rintro acc _ ⟨rfl,rfl⟩
    rw[e0v,p0k (hr r hr').1 (hr r hr').2]
    exact hM3
  ·rw[List.map_map];rfl
 rintro _ rfl
 refine cutS (fun ρ=>ρ=[nv m,.vl (.tup (a0p rows)),.ow ((rows.map b0q).map lstN),.ow [],.un]) (fun M hM=>⟨by simp,hM _ rfl⟩) ?_
 rintro _ rfl
 have bst:∀(S:PS) (n:Nat),S=runP m rows n->S.js.length<=133->∀q':R->List Sv->Prop,(∀d,(c0p S->d = .non)->(¬c0p S->d=L2.b0h (coF S.held))->q' (.d d) [.ow (S.held.map lstN)])->a1y [.ow (S.held.map lstN)] q':=fun S n hS hj q' h=>by
  have I:PIv m rows S.js S.held:=by rw[hS];exact PIv.run hR n
  have hl:=I.len
  refine⟨S.held,rfl,by omega,fun t ht=>(I.som t ht).2,fun t ht x hx=>by have:=I.lt t ht x hx;omega,fun he=>h _ (fun z=>?_) fun _=>rfl,fun ha=>h _ (fun _=>rfl) fun z=>absurd ha z⟩
  obtain⟨t,ht,h2⟩:=he
  have:=z t ht
  omega
 refine cutS (fun ρ=>∃d,(c0p (runP m rows 0)->d = .non)/\(¬c0p (runP m rows 0)->d=L2.b0h (coF (runP m rows 0).held))/\ρ=[nv m,.vl (.tup (a0p rows)),.ow ((rows.map b0q).map lstN),.ow [],.vl d]) (fun M hM=>⟨rfl,bst (runP m rows 0) 0 rfl (by show 0<=133;omega) _ fun d h1 h2=>hM _ ⟨d,h1,h2,rfl⟩⟩) ?_
 rintro _ ⟨d0,hd1,hd2,rfl⟩
 refine cutS (fun ρ=>∃n S d,S=runP m rows n/\S.js.length=n/\n<=133/\(c0p S∨n=133)/\ρ=[nv m,.vl (.tup (a0p rows)),.ow (S.held.map lstN),.ow (S.js.map L2.b0h),.vl d]) (fun M hM=>q0b (fun ρ=>∃n S d,S=runP m rows n/\S.js.length=n/\n<=133/\(c0p S->d = .non)/\(¬c0p S->d=L2.b0h (coF S.held))/\ρ=[nv m,.vl (.tup (a0p rows)),.ow (S.held.map lstN),.ow (S.js.map L2.b0h),.vl d]) (fun ρ=>match ρ with | [_,_,_,.ow js,_]=>200 - js.length | _=>0) ?_ _ ⟨0,runP m rows 0,d0,rfl,rfl,by omega,hd1,hd2,rfl⟩) ?_
 ·rintro _ N ⟨n,S,d,hS,hj,hn,h1,h2,rfl⟩ hN
  have I:PIv m rows S.js S.held:=by rw[hS];exact PIv.run hR n
  have hl:=I.len
  by_cases hs:c0p S
  ·have:=h1 hs
   subst this
   exact hM _ ⟨n,S,.non,hS,hj,hn,.inl hs,rfl⟩
  ·have:=h2 hs
   subst this
   refine ite2 (fun z=>?_) fun z=>?_
   ·have z':n<133:=by
     have:decide ((((S.js.map L2.b0h).length:Nat):Int)<133)=true:=z
     have:=of_decide_eq_true this
     rw[List.length_map]at this
     omega
    obtain⟨t1,ht1,hp⟩:=t0f (m0u hs)
    have hst:e0a m S=⟨S.js++[coF S.held],S.held.map fun t=>c0e t (coF S.held) (m+S.js.length)⟩:=by unfold e0a;rw[if_neg hs]
    have hnext:e0a m S=runP m rows (n+1):=by rw[hS];rfl
    rw[hst]at hnext
    generalize coF S.held=p at *
    refine cutS (fun ρ=>ρ=[nv m,.vl (.tup (a0p rows)),.ow ((S.held.map fun t=>c0e t p (m+S.js.length)).map lstN),.ow (S.js.map L2.b0h),.vl (L2.b0h p)]) (fun M2 hM2=>⟨rfl,by rw[List.length_map];omega,?_⟩) ?_
    ·refine c0c lstN (fun t=>lstN (c0e t p (m+S.js.length))) (by first | rfl | trivial) (fun t acc M3 ht hM3=>⟨rfl,t,p,m+S.js.length,?_,by have:=(I.som t ht).2;omega,fun _=>hM3,fun hb=>?_⟩) ?_
     ·show[Sv.vl (lstN t),Sv.vl (L2.b0h p),Sv.vl (.int ((m:Int)+(((S.js.map L2.b0h).length:Nat):Int)))]=_
      rw[List.length_map]
      exact congrArg (fun z=>[Sv.vl (lstN t),Sv.vl (L2.b0h p),Sv.vl (D.int z)]) (by omega:(m:Int)+((S.js.length:Nat):Int)=((m+S.js.length:Nat):Int))
     ·have e:c0e t p (m+S.js.length)=t:=by unfold c0e;rw[if_neg hb]
      rw[e]at hM3
      exact hM3
     ·exact hM2 _ (by rw[List.map_map];rfl)
    rintro _ rfl
    refine⟨by rw[List.length_map];omega,rfl,?_⟩
    have hj2:(S.js++[p]).length=n+1:=by rw[List.length_append,hj];rfl
    refine bst ⟨S.js++[p],S.held.map fun t=>c0e t p (m+S.js.length)⟩ (n+1) hnext (by rw[hj2];omega) _ fun d e1 e2=>hN _ ⟨n+1,_,d,hnext,hj2,by omega,e1,e2,by rw[List.map_append];rfl⟩ ?_
    show 200 - ((S.js.map L2.b0h)++[L2.b0h p]).length<200 - (S.js.map L2.b0h).length
    rw[List.length_append,List.length_map,List.length_singleton];omega
   ·have z':¬n<133:=fun y=>z (by
     show decide ((((S.js.map L2.b0h).length:Nat):Int)<133)=true
     rw[List.length_map]
     exact decide_eq_true (by omega))
    exact hM _ ⟨n,S,_,hS,hj,hn,.inr (by omega),rfl⟩
 rintro _ ⟨n,S,d,hS,hj,hn,hor,rfl⟩
 have I:PIv m rows S.js S.held:=by rw[hS];exact PIv.run hR n
 have hl:=I.len
 by_cases hc:c0p (runP m rows 132)
 ·have hq:=hq1 hc
  have hs:c0p S:=by
   apply Classical.byContradiction
   intro hs
   have:=s0c hc (n:=n) (by rw[<- hS];exact hs)
   rcases hor with y | y
   ·exact hs y
   ·omega
  have e:S=runP m rows 132:=by rw[hS];exact o0f hc (by rw[<- hS];exact hs)
  have h132:=z0m (m:=m) (rows:=rows)
  rw[<- e]at h132
  refine cutS (fun ρ=>ρ=[nv m,.vl (.tup (a0p rows)),.ow (S.held.map lstN),.ow (S.js.map L2.b0h),.vl d]) (fun M hM=>ite2 (fun z=>?_) fun _=>hM _ rfl) ?_
  ·have:decide ((132:Int)<(((S.js.map L2.b0h).length:Nat):Int))=true:=z
   have:=of_decide_eq_true this
   rw[List.length_map]at this
   omega
  rintro _ rfl
  have h1:∀t∈S.held,t.length=1:=fun t ht=>by
   have:=hs t ht
   have:=(I.som t ht).1
   omega
  refine⟨rfl,by rw[List.length_map];omega,?_⟩
  refine c0c lstN (fun t=>nD (t.getD 0 0)) (by first | rfl | trivial) (fun t acc M3 ht hM3=>h0v (i:=0) (xs:=t) rfl (by rw[h1 t ht];decide) hM3) ?_
  unfold g0i at hq
  rw[<- e]at hq
  unfold netD a0p at hq
  simp only[List.map_map]at hq
  exact⟨by simp,hq⟩
 ·have hn2:n=133:=by
   rcases hor with y | y
   ·rcases Nat.lt_or_ge n 133 with g | g
    ·exact absurd (by rw[<- hS];exact y) (v0z (n:=n) (by omega) hc).1
    ·omega
   ·exact y
  refine cutS (fun _=>False) (fun M hM=>ite2 (fun _=>hq2 hc) fun z=>?_) (fun _ z=>z.elim)
  refine absurd ?_ z
  show decide ((132:Int)<(((S.js.map L2.b0h).length:Nat):Int))=true
  rw[List.length_map]
  exact decide_eq_true (by omega)
end
theorem y0f {m:Nat}{S:PS}{p:Nat×Nat}(h:IsCo (S.held.flatMap pairsN) p)(hs:¬c0p S):e0a m S=⟨S.js++[p],S.held.map fun t=>c0e t p (m+S.js.length)⟩:=by
 unfold e0a
 rw[if_neg hs]
 have:coF S.held=p:=by unfold coF;exact t0e h
 rw[this]
theorem run0:runP 3 [7,6,6] 0=⟨[],[[0,1,2],[1,2],[1,2]]⟩:=by
 show(⟨[],[7,6,6].map b0q⟩:PS)=_
 rw[show[7,6,6].map b0q=[[0,1,2],[1,2],[1,2]]by decide +kernel]
theorem run1:runP 3 [7,6,6] 1=⟨[(1,2)],[[0,3],[3],[3]]⟩:=by
 show e0a 3 (runP 3 [7,6,6] 0)=_
 rw[run0,y0f (p:=(1,2)) (by unfold IsCo;decide +kernel) (fun z=>absurd (z [0,1,2] (by simp)) (by decide))]
 show(⟨[(1,2)],[[0,1,2],[1,2],[1,2]].map fun t=>c0e t (1,2) 3⟩:PS)=_
 rw[show([[0,1,2],[1,2],[1,2]].map fun t=>c0e t (1,2) 3)=[[0,3],[3],[3]]by decide +kernel]
theorem run2:runP 3 [7,6,6] 2=⟨[(1,2),(0,3)],[[4],[3],[3]]⟩:=by
 show e0a 3 (runP 3 [7,6,6] 1)=_
 rw[run1,y0f (p:=(0,3)) (by unfold IsCo;decide +kernel) (fun z=>absurd (z [0,3] (by simp)) (by decide))]
 show(⟨[(1,2),(0,3)],[[0,3],[3],[3]].map fun t=>c0e t (0,3) 4⟩:PS)=_
 rw[show([[0,3],[3],[3]].map fun t=>c0e t (0,3) 4)=[[4],[3],[3]]by decide +kernel]
theorem g1k:c0p (runP 3 [7,6,6] 2):=by
 rw[run2]
 intro t ht
 simp at ht
 rcases ht with rfl | rfl <;> simp
theorem b1t:runP 3 [7,6,6] 132=⟨[(1,2),(0,3)],[[4],[3],[3]]⟩:=by
 have:=e0p g1k 130
 rw[run2]at this
 exact this
theorem d1q:g0i 3 [7,6,6]=⟨3,[(1,2),(0,3)],[4,3,3]⟩:=by
 unfold g0i
 rw[b1t]
 rfl
section
variable {P:Program}{w:World}{K:PySem.W.Frag}{mg:Str->Option Value}{base:Heap}
theorem h1c (dn:DefN K mg "law" t0t ["_law_script"])(B:BI mg)(g_law_tape:OkN P w K mg base 1 "_law_tape" ["_law_script"] (spA K f1f))(g_law_wish:OkN P w K mg base 3 "_law_wish" ["_law_tape_here"] (spA K f1e))(g_law_due:OkN P w K mg base 2 "_law_due" ["_law_many", "_law_rows"] (spA K SDue))(g_law_told:OkN P w K mg base 4 "_law_told" ["_law_wish_here"] (spA K y0q))(g_pairs_net:OkN P w K mg base 3 "pairs_net" ["wish"] (spA K t0l))(g_law_is_tuples:OkN P w K mg base 2 "_law_is_tuples" ["_law_net"] (spA K k0v)):OkN P w K mg base 5 "law" ["_law_script"] (spA K SLaw):=by
 refine dn.aok2 (k:=4) i0n (fun j=>j==0) [.un,.un,.un,.un,.un,.un,.un] SLaw rfl (fun f cdv A outer s H E hr=>have hu:=f0d hr;⟨_,(a0f (b0c (i:=1) i0n.nd rfl (by first | exact Or.inl rfl | exact Or.inr rfl) (c0f g_law_tape (hr.mono (by decide)) (a0b (pv 0) a0e)))
  (a0f (s0h (c0f g_law_wish (hr.mono (by decide)) (a0b (pv 1) a0e)) (i0d K (n:=2) rfl (c0y (a0t (i:=2) i0n.nd rfl (by first | exact Or.inl rfl | exact Or.inr rfl)) (c0y (a0t (i:=3) i0n.nd rfl (by first | exact Or.inl rfl | exact Or.inr rfl)) i0c))))
  (a0f (b0c (i:=4) i0n.nd rfl (by first | exact Or.inl rfl | exact Or.inr rfl) (c0f g_law_due (hr.mono (by decide)) (a0b (pv 2) (a0b (pv 3) a0e))))
  (a0f (b0c (i:=5) i0n.nd rfl (by first | exact Or.inl rfl | exact Or.inr rfl) (a0m (y0g K rfl) rfl B.sum_ i1k (a0b (z0u ["_law_row"] [2] rfl (BlkC.of (a0i t0t) c1b) (b0u K (pv 3)) (fun _ _ _ _ nd=>(a0t (i:=0) nd rfl (by first | exact Or.inl rfl | exact Or.inr rfl))) (fun _ _ _ _=>c0r) (fun _ _ _ _=>(b0d l0m (a0m (b0e K) rfl B.len_ d0d (a0b (e0c ["_law_k"] [0] rfl (Blk.inC (a0i t0t) ["_law_row", "_law_many"]) (d0w rfl B.range_ (a0b (pv 1) a0e)) (fun _ _ _ _ nd=>(a0t (i:=0) nd rfl (by first | exact Or.inl rfl | exact Or.inr rfl))) (fun _ _ _ _=>(j0n (a0v (j0x K hr.units) (b0d s0m (b0d w0n (pv 1) (pv 0)) a0h) a0h (b0m _)))) (fun _ _ _ _=>(pv 0))) a0e)) a0h))) a0e)))
  (a0f (g0e PassesOwn.never rfl (d0w rfl B.range_ (a0b (b0d c0w a0h (e0r y0j rfl B.int_ c1k (a0b (j0t d1u (a0m (b0e K) rfl B.len_ d0d (a0b (pv 3) a0e)) a0h (b0m _)) a0e))) a0e)) (a0t (i:=6) i0n.nd rfl (by first | exact Or.inl rfl | exact Or.inr rfl))
  (a0f (b0c (i:=7) i0n.nd rfl (by first | exact Or.inl rfl | exact Or.inr rfl) (c0f g_law_told (hr.mono (by decide)) (a0b (d0j (a0b (pv 2) (a0b (pv 3) a0e))) a0e)))
  (a0f (f0a (PW.pt (i0o (a0v b1y (pv 4) h0p (b0m _)) (g0c (a0v (o0k K hr.units) (pv 7) (d0j (a0b e0q (a0b q0p a0e))) (b0m _)))))
  (a0n (b0t q0p))
  c0b)
  (a0n (f0a (PW.pt (i0o (a0v q0r (pv 4) h0p (b0m _)) (g0c (PW.pt (o0h (j0o (h0o (c0f g_law_is_tuples (hr.mono (by decide)) (a0b (pv 7) a0e)))) (o0h (a0v (o0k K hr.units) (pv 7) (pv 4) (b0m _)) (o0g (a0v i0f (a0m (b0e K) rfl B.len_ d0d (a0b (g0g (c0o K) (pv 7) a0h (fun _ _=>rfl)) a0e)) (pv 5) (b0m _)))))))))
  (a0n (b0t q0p))
  c0b)))))
  (a0n (b0t (j0t (j0x K hr.units) (c0f g_pairs_net (hr.mono (by decide)) (a0b (d0j (a0b a0h (a0b (d0j (a0b a0h (a0b a0h (a0b a0h a0e)))) a0e))) a0e)) (d0j (a0b a0h (a0b (d0j (a0b (d0j (a0b a0h (a0b a0h a0e))) (a0b (d0j (a0b a0h (a0b a0h a0e))) a0e))) (a0b (d0j (a0b a0h (a0b a0h (a0b a0h a0e)))) a0e)))) (b0m _))))))))),(a0k (a0u (a0q (a0a a0c a0d)) rfl)
  (a0k (m0h (a0q (a0a a0c a0d)) (g0n (b0v (a0l rfl) (b0v (a0l rfl) e0y (fun _ _ _=>e0f)) (fun _ _ _=>e0f))))
  (a0k (a0u (a0q (a0a a0c (a0a a0c a0d))) rfl)
  (a0k (a0u (b0j a1m (a0a (b0p (b0i a0c) (a0l rfl) b0y (a0j b0a (b0j b0w (a0a (b0p (d0r (a0a a0c a0d)) (a0l rfl) (a0r (a0j j0z (a0j b0a (a0j f0o a0c a0c) a0g) a0g)) a0c) a0d)) a0g)) a0d)) rfl)
  (a0k (e0l (pin:=(fun _=>false)) (d0r (a0a (a0j b0a a0g (b0j a1o (a0a (a0j d0m (b0j b0w (a0a a0c a0d)) a0g) a0d))) a0d)) (a0l rfl)
  (a0k (a0u (a0q (a0a (c0m (a0a a0c (a0a a0c a0d))) a0d)) rfl)
  (a0k (d0i (f0i (a0r (a0j w0q a0c f0j)) (a0r (a0j o0m a0c (c0m (a0a m0f (a0a j0g a0d))))))
  (b0g j0g)
  b0k)
  (d0i (f0i (a0r (a0j m0t a0c f0j)) (f0y (f0h (g0z (a0q (a0a a0c a0d)))) (f0y (a0r (a0j o0m a0c a0c)) (a0r (a0j d0m (b0j b0w (a0a (a0j e0h a0c a0g) a0d)) a0c)))))
  (b0g j0g)
  b0k))))
  (b0g (a0j j0z (a0q (a0a (c0m (a0a a0g (a0a (c0m (a0a a0g (a0a a0g (a0a a0g a0d)))) a0d))) a0d)) (c0m (a0a a0g (a0a (c0m (a0a (c0m (a0a a0g (a0a a0g a0d))) (a0a (c0m (a0a a0g (a0a a0g a0d))) a0d))) (a0a (c0m (a0a a0g (a0a a0g (a0a a0g a0d)))) a0d)))))))))))⟩) ?_
 rintro ss q ⟨ns,hz,rfl,hq⟩
 refine⟨rfl,rfl,?_⟩
 refine cutS (fun ρ=>ρ=[.sc ns,.tp 0,.un,.un,.un,.un,.un,.un]) (fun M hM=>⟨rfl,ns,rfl,hM _ rfl⟩) ?_
 rintro _ rfl
 refine cutS (fun ρ=>∃m rows n1,e0u m rows/\1<=rows.length/\ρ=[.sc ns,.tp n1,nv m,.vl (.tup (a0p rows)),.un,.un,.un,.un]) (fun M hM=>⟨rfl,0,rfl,by omega,fun m rows n' h1 h2 h3=>hM _ ⟨m,rows,n',h1,h2,rfl⟩⟩) ?_
 rintro _ ⟨m,rows,n1,hR,hL,rfl⟩
 obtain⟨m1,m2,rl,hr⟩:=id hR
 have hl:=hR.lt
 refine cutS (fun ρ=>∃d,(c0p (runP m rows 132)->d=netD (g0i m rows))/\(¬c0p (runP m rows 132)->d = .non)/\ρ=[.sc ns,.tp n1,nv m,.vl (.tup (a0p rows)),.vl d,.un,.un,.un]) (fun M hM=>⟨rfl,m,rows,rfl,hR,fun h=>hM _ ⟨_,fun _=>rfl,fun z=>absurd h z,rfl⟩,fun h=>hM _ ⟨_,fun z=>absurd z h,fun _=>rfl,rfl⟩⟩) ?_
 rintro _ ⟨d,hd1,hd2,rfl⟩
 refine cutS (fun ρ=>ρ=[.sc ns,.tp n1,nv m,.vl (.tup (a0p rows)),.vl d,nv (cost rows),.un,.un]) (fun M hM=>?_) ?_
 ·refine⟨by rw[a0x];omega,?_⟩
  refine c0c nD (fun r=>.int ((((b0q r).length:Nat):Int) - 1)) (by first | rfl | trivial) (fun r acc M3 hr' hM3=>?_) ?_
  ·refine⟨⟨by omega,by omega⟩,by rw[e0v];omega,?_⟩
   rw[Int.toNat_natCast]
   refine e0t (fun j acc ρ=>acc=a0p ((List.range j).filter r.testBit)/\ρ=[nv r,nv m]) ?_ ?_ ?_ _ ⟨rfl,rfl⟩
   ·rintro j acc ρ _ ⟨_,rfl⟩;first | rfl | trivial
   ·rintro j d acc _ M4 hj ⟨rfl,rfl⟩ hM4
    obtain⟨lt,rfl⟩:=j0a hj
    rw[Int.zero_add]
    have fs:=j0d r.testBit (List.range j) j
    rw[<- List.range_succ]at fs
    refine⟨Int.natCast_nonneg _,f0x rfl rfl (by simp[D.depth]) (c1n r j) ?_⟩
    cases e:r.testBit j with
    | false=>exact hM4 _ _ ⟨by rw[fs,e];rfl,rfl⟩
    | true=>exact hM4 _ _ ⟨by rw[fs,e];rfl,rfl⟩
   ·rintro acc _ ⟨rfl,rfl⟩
    rw[e0v]
    have e:(a0p ((List.range m).filter r.testBit)).length=(b0q r).length:=by rw[a0x,p0k (hr r hr').1 (hr r hr').2]
    show M3 (_++[D.int ((((a0p ((List.range m).filter r.testBit)).length:Nat):Int) - 1)]) _
    rw[e]
    exact hM3
  ·refine e1p (ns:=rows.map fun r=>(((b0q r).length:Nat):Int) - 1) (by rw[List.map_map];rfl) (fun n hn=>?_) ?_ ?_
   ·obtain⟨r,hr',rfl⟩:=List.mem_map.mp hn
    have:=r0j (hl r hr').1
    omega
   ·rw[r0y hl]
    have:=e1w hl rl
    omega
   ·rw[r0y hl];exact hM _ rfl
 rintro _ rfl
 refine cutS (fun ρ=>∃s6 s7,ρ=[.sc ns,.tp n1,nv m,.vl (.tup (a0p rows)),.vl d,nv (cost rows),s6,s7]) (fun M hM=>?_) ?_
 ·refine⟨?_,h0x (fun k ρ=>∃s6 s7,ρ=[.sc ns,.tp n1,nv m,.vl (.tup (a0p rows)),.vl d,nv (cost rows),s6,s7]) (fun _ _ _=>trivial) ?_ (fun ρ ⟨s6,s7,e⟩=>hM ρ ⟨s6,s7,e⟩) ⟨.un,.un,rfl⟩⟩
  ·split <;> exact⟨by decide,by decide⟩
  ·rintro k _ M1 hk ⟨s6,s7,rfl⟩ hM1
   by_cases hc:c0p (runP m rows 132)
   ·have:=hd1 hc
    subst this
    have hcs:=(PIv.run hR 132).cst
    have hlen:(g0i m rows).js.length<=cost rows:=by show(runP m rows 132).js.length<=_;omega
    have los:(g0i m rows).os.length<=1000:=by
     show((runP m rows 132).held.map _).length<=_
     rw[List.length_map,(PIv.run hR 132).len];omega
    refine cutS (fun ρ=>ρ=[.sc ns,.tp n1,nv m,.vl (.tup (a0p rows)),.vl (netD (g0i m rows)),nv (cost rows),.vl (.int (0+(k:Int))),.vl (netD (g0i m rows))]) (fun M2 hM2=>⟨by simp,rfl,m,rows,rfl,hR,fun _=>hM2 _ rfl,fun z=>absurd hc z⟩) ?_
    rintro _ rfl
    refine cutS (fun ρ=>ρ=[.sc ns,.tp n1,nv m,.vl (.tup (a0p rows)),.vl (netD (g0i m rows)),nv (cost rows),.vl (.int (0+(k:Int))),.vl (netD (g0i m rows))]) (fun M2 hM2=>hM2 _ rfl) ?_
    rintro _ rfl
    refine⟨rfl,g0i m rows,rfl,los,f0x rfl rfl (p0o _) (b:=true) (h0y _) (l0a rfl rfl (ite2 (fun z=>?_) fun _=>hM1 _ ⟨_,_,rfl⟩))⟩
    have z':decide (((cost rows:Nat):Int)<(((g0i m rows).js.map L2.b0h).length:Int))=true:=z
    rw[decide_eq_true_eq,List.length_map]at z';omega
   ·have:=hd2 hc
    subst this
    refine cutS (fun ρ=>ρ=[.sc ns,.tp n1,nv m,.vl (.tup (a0p rows)),.vl .non,nv (cost rows),.vl (.int (0+(k:Int))),.vl (.tup [.str "no",.bl true])]) (fun M2 hM2=>⟨by simp,rfl,m,rows,rfl,hR,fun z=>absurd z hc,fun _=>hM2 _ rfl⟩) ?_
    rintro _ rfl
    refine cutS (fun ρ=>ρ=[.sc ns,.tp n1,nv m,.vl (.tup (a0p rows)),.vl .non,nv (cost rows),.vl (.int (0+(k:Int))),.vl (.tup [.str "no",.bl true])]) (fun M2 hM2=>⟨by simp,f0x rfl rfl (by decide +kernel) (b:=true) (h0y _) (hM2 _ rfl)⟩) ?_
    rintro _ rfl
    exact hM1 _ ⟨_,_,rfl⟩
 rintro _ ⟨s6,s7,rfl⟩
 have r7:e0u 3 [7,6,6]:=⟨by decide,by decide,by decide,by decide⟩
 refine⟨by simp,by simp,rfl,3,[7,6,6],rfl,r7,by rw[b1t,<- run2];exact g1k,?_⟩
 rw[d1q]
 exact⟨by simp,by simp,by simp,by simp,by simp,f0x rfl rfl (p0o _) (b:=true) (by decide +kernel) (hq _)⟩
theorem fin (d_givens_of:DefN K mg "givens_of" e0n ["row"])(d_refuse_joins:DefN K mg "refuse_joins" c0u ["count"])(d_pairs_net:DefN K mg "pairs_net" b0n ["wish"])(d_commonest:DefN K mg "commonest" e0o ["held"])(d_pairs_in:DefN K mg "pairs_in" e0z ["things"])(d_with_pair:DefN K mg "with_pair" e0m ["things", "pair", "new"])(d_law_tape:DefN K mg "_law_tape" g0r ["_law_script"])(d_law_draw:DefN K mg "_law_draw" g0s ["_law_tape_here", "_law_many"])(d_law_whole:DefN K mg "_law_whole" f0m ["_law_found"])(d_law_wish_rows:DefN K mg "_law_wish_rows" d0f ["_law_tape_here", "_law_many", "_law_most"])(d_law_great_rows:DefN K mg "_law_great_rows" c0x ["_law_tape_here"])(d_law_wish:DefN K mg "_law_wish" g0p ["_law_tape_here"])(d_law_is_tuples:DefN K mg "_law_is_tuples" c0a ["_law_net"])(d_law_alone:DefN K mg "_law_alone" f0n ["_law_error", "_law_place"])(d_law_best:DefN K mg "_law_best" g0t ["_law_held"])(d_law_put:DefN K mg "_law_put" g0b ["_law_things", "_law_pair", "_law_thing"])(d_law_due:DefN K mg "_law_due" d0v ["_law_many", "_law_rows"])(d_law_told:DefN K mg "_law_told" g0q ["_law_wish_here"])(d_law:DefN K mg "law" t0t ["_law_script"])(c_MOST_JOINS:∃u,mg "MOST_JOINS" = some u/\RelV (.int 132) u)(xf:XF K mg)(B:BI mg):OkN P w K mg base 5 "law" ["_law_script"] (d1d K):=by
 obtain⟨C_TooMany,C_JoinError,C_NoFit,C_NoWidth,C_NoRow,C_NoName,C_Nought,C_Bare,C_Loose,C_Leans,C_NoAnswer,C_NoText,m_TooMany,m_JoinError,m_NoFit,m_NoWidth,m_NoRow,m_NoName,m_Nought,m_Bare,m_Loose,m_Leans,m_NoAnswer,m_NoText,n_ValueError,e_TooMany,ea_JoinError,s_TooMany_JoinError,i_TooMany,k_TooMany_NoFit,k_TooMany_TooMany,k_TooMany_NoWidth,k_TooMany_ValueError,k_TooMany_NoRow,k_TooMany_NoName,k_TooMany_Nought,k_TooMany_Bare,k_TooMany_Loose,k_TooMany_Leans,k_TooMany_NoAnswer,k_TooMany_NoText⟩:=xf
 exact
 have g_law_tape:=q0v d_law_tape B
 have g_law_draw:=q0w d_law_draw B
 have g_pairs_in:=q0s d_pairs_in B
 have g_commonest:=o0s d_commonest B g_pairs_in
 have g_with_pair:=o0n d_with_pair B
 have g_givens_of:=o0r d_givens_of B
 have g_refuse_joins:=k0b d_refuse_joins B c_MOST_JOINS
 have x_refuse_joins_TooMany:=f0c m_TooMany e_TooMany d_refuse_joins B c_MOST_JOINS
 have g_pairs_net:=o0o d_pairs_net B g_givens_of g_refuse_joins g_commonest g_with_pair
 have x_pairs_net_TooMany:=g0j m_TooMany e_TooMany d_pairs_net B g_givens_of g_refuse_joins g_commonest g_with_pair x_refuse_joins_TooMany
 have g_law_whole:=o0p d_law_whole B
 have g_law_is_tuples:=i0t d_law_is_tuples B g_law_whole
 have g_law_alone:=o0q m_NoFit m_TooMany m_NoWidth n_ValueError m_NoRow m_NoName m_Nought m_Bare m_Loose m_Leans m_NoAnswer m_NoText i_TooMany k_TooMany_NoFit k_TooMany_TooMany k_TooMany_NoWidth k_TooMany_ValueError k_TooMany_NoRow k_TooMany_NoName k_TooMany_Nought k_TooMany_Bare k_TooMany_Loose k_TooMany_Leans k_TooMany_NoAnswer k_TooMany_NoText d_law_alone B
 have g_law_told:=q0u m_TooMany m_JoinError ea_JoinError s_TooMany_JoinError d_law_told B g_pairs_net g_law_alone x_pairs_net_TooMany
 have g_law_wish_rows:=i0s d_law_wish_rows B g_law_draw
 have g_law_great_rows:=i0g d_law_great_rows B g_law_draw
 have g_law_wish:=q0t d_law_wish B g_law_draw g_law_wish_rows g_law_great_rows
 have g_law_best:=q0x d_law_best B
 have g_law_put:=t0x d_law_put B
 have g_law_due:=t0y d_law_due B g_law_best g_law_put
 have g_law:=h1c d_law B g_law_tape g_law_wish g_law_due g_law_told g_pairs_net g_law_is_tuples
 h1k g_law
end
end K51
namespace PySem.W.Fast
def tw17999094496499554296:=()
def tw2337895182741207219:=()
def tw10494396070378529519:=()
def tw443849994477933413:=()
def tw14307199745367392929:=()
def tw10400604814179854904:=()
def tw8455362578028831643:=()
def tw14810624235483212267:=()
def tw11496292654669544895:=()
def tw771167187354508249:=()
def tw13556122212772965521:=()
def tw17559976814197770508:=()
def tw10014389644319948772:=()
def tw3846376545929845732:=()
def tw18166652808153248572:=()
def tw4003864086872472153:=()
def tw15583394626823402827:=()
def tw10014286132524913244:=()
def tw13669328034690716725:=()
def tw13055324594787200219:=()
def tw1929933100343104791:=()
def tw14910250472531352134:=()
def tw13104969872376633303:=()
def tw13125604661533228474:=()
def tw16643093751537966896:=()
def tw7641343444656311676:=()
def tw17620527802146962128:=()
def tw16682640100659373540:=()
def tw5871909388477552549:=()
def tw11978431503453753789:=()
def tw558139993168693440:=()
def tw13325260163573046828:=()
def tw10107645294533339549:=()
def tw10014420925189723102:=()
def tw15662220359545888659:=()
def tw14502856152497747867:=()
def tw7928839385932027466:=()
def tw16937105362069032470:=()
def tw2077979360682831613:=()
def tw7708482341409880717:=()
def tw1689069359765715106:=()
def tw12195037830968096928:=()
def tw15364745698583404877:=()
def tw6408693261370920527:=()
def tw8733805693470104897:=()
def tw10929636879441259818:=()
def tw5806062036299849188:=()
def tw8290360637011069471:=()
def tw4900432277519003967:=()
def tw7120044787552364669:=()
def tw3758656994936151365:=()
def tw14620074358957628716:=()
def tw10130505702138276313:=()
def tw1234518635695567335:=()
def tw2566665449563921720:=()
def tw5948886883365798335:=()
def tw13799348212751301084:=()
def tw7133048414440747182:=()
def tw4371790370200355215:=()
def tw9605915696725424678:=()
def tw17847665833760307485:=()
def tw17130945553701075733:=()
def tw10077238813055271200:=()
def tw14288345278132459439:=()
def tw3235054941131284643:=()
def tw6308553579270720633:=()
def tw15583997089629087925:=()
def tw11617986159415541775:=()
def tw1164412551533515253:=()
def tw1125585717825484263:=()
def tw7478246066448050670:=()
def tw6940041401188138650:=()
def tw7397613927626778538:=()
def tw9280690474129918843:=()
def tw12601717465250550116:=()
def tw11904846029561337153:=()
def tw16912134235556361356:=()
def tw5347665238915398836:=()
def tw16438701814425969372:=()
def tw482982937213767431:=()
def tw5378804253328129323:=()
def tw10539996988335934646:=()
def tw8998124638849847377:=()
def tw12734325598411299909:=()
def tw1656409683696964249:=()
def tw3739547573037877208:=()
def tw11834861022581579906:=()
def tw9922497725312747761:=()
def tw8934722928390751094:=()
def tw5443783621206535835:=()
def tw8426225979424145662:=()
def tw5651717531807361584:=()
def tw629682877811527721:=()
def tw10627086537008855028:=()
def tw17260500400543811011:=()
def tw16196694419025573252:=()
def tw1212520433987514482:=()
def tw10283926561024864427:=()
def tw10650956064052479057:=()
def tw12145411310577181263:=()
def tw9678976342338007210:=()
def tw16674268179607888946:=()
def tw15843395280867128302:=()
def tw16113652585794067490:=()
def tw8802079731174866595:=()
def tw16339730418447479441:=()
def tw15858017514414438422:=()
def tw2685464086041528347:=()
def tw9922637349600460874:=()
def tw2879152317577725461:=()
def tw1543010200469645385:=()
def tw7500077054324544945:=()
def tw5875509792581669092:=()
def tw16070174271870316198:=()
def tw15091996061745457452:=()
def tw6298946457973367217:=()
def tw14895134460725641662:=()
def tw12603818878482910973:=()
def tw15380479580431560874:=()
def tw10376079895180712276:=()
def tw3300757927891133323:=()
def tw11805947656973128700:=()
def tw11148185376614454606:=()
def tw11201834986467557542:=()
def tw9714524953524439796:=()
def tw14771715526816387705:=()
def tw5615662210190885925:=()
def tw6783610349024921387:=()
def tw8291545151968306548:=()
def tw13287694119615754911:=()
def tw9862938266777863397:=()
def tw2250304945442616733:=()
def tw9788254145702685854:=()
def tw16401742105615982395:=()
def tw1817459255738491709:=()
def tw16336217101782267362:=()
def tw12599248703814045308:=()
def tw4711301009871653060:=()
def tw870538997114426844:=()
def tw8810894729707214197:=()
def tw3590720013281770950:=()
def tw2017810116496758164:=()
def tw9300469346020518722:=()
def tw10050860889242564423:=()
def tw7613730735334624264:=()
def tw15121725928969999247:=()
def tw6421460133483806853:=()
def tw6591249919133762502:=()
def tw13074073985344582067:=()
def tw3702202822393162594:=()
def tw13998026217804294873:=()
def tw3215165461348518742:=()
def tw5870993287024224087:=()
def tw10818847270943693342:=()
def tw14726248724645048299:=()
def tw519970542507893953:=()
def tw18200963278978976945:=()
def tw1450446011169191544:=()
def tw5687436087423578127:=()
def tw8743125686752057181:=()
def tw8618992051902373988:=()
def tw10923617257088094069:=()
def tw11672879111824735147:=()
def tw10491132973020846198:=()
def tw14074891999752928904:=()
def tw13915137508404942998:=()
def tw5532261664151345387:=()
def tw209455810773269253:=()
def tw15443333294912419971:=()
def tw8059192934094685510:=()
def tw12047880759087623881:=()
def tw7462892056998778163:=()
def tw17490588327334538703:=()
def tw15207349155277467900:=()
def tw4088875971897260346:=()
def tw3734762402969534554:=()
def tw13623946009716945926:=()
def tw4453527018556849591:=()
def tw5558832483327802671:=()
def tw17061013186237098021:=()
def tw2134258116908698747:=()
def tw1904286222356070893:=()
def tw9390890714359124076:=()
def tw964466215273797443:=()
def tw4204429329494540631:=()
def tw6536244330986738357:=()
def tw6274161164082942522:=()
def tw7701409306008465259:=()
def tw2824924107366889265:=()
def tw8250642574897004588:=()
def tw17227654050139308984:=()
def tw7372608361753372084:=()
def tw12051366276411499966:=()
def tw3989716846227863165:=()
def tw646702204724487857:=()
def tw13034501627627809894:=()
def tw13389887670201437373:=()
def tw762675259451090012:=()
def tw9965768946963904275:=()
def tw6777049743203764800:=()
def tw2126235925278593421:=()
def tw10307132621982208006:=()
def tw14557873260901973152:=()
def tw12981166089129784084:=()
def tw17527840712481105027:=()
def tw14691726330428823339:=()
def tw15622743615221766111:=()
def tw11006087031334084600:=()
def tw16861879884005776994:=()
def tw14441635385031125764:=()
def tw12449941970717095767:=()
def tw8708480433232171295:=()
def tw18198694396632638967:=()
def tw15663129713050721438:=()
def tw2541794534115406644:=()
def tw17387678245287827846:=()
def tw17202421983019516317:=()
def tw721560040614072018:=()
def tw15796789609025659784:=()
def tw18137335959694896036:=()
def tw1030671421310787985:=()
def tw16792096472520844415:=()
def tw4854608580418388488:=()
def tw697730308837725879:=()
def tw656061864193960955:=()
def tw5886935406551416213:=()
def tw6149567029980425149:=()
def tw17891138613813044736:=()
def tw1524987410061244984:=()
def tw14969040520803382012:=()
def tw7780156235471042144:=()
def tw8853896242131719029:=()
def tw17558951936060527409:=()
def tw15380324261107092901:=()
def tw9279723847691099796:=()
def tw10486578338346031043:=()
def tw12135223073715911997:=()
def tw14612077228784731763:=()
def tw3385775774513793877:=()
def tw8310630357421565689:=()
def tw144496538685814211:=()
def tw3195342473841709419:=()
def tw14184960981485443229:=()
def tw7616823359027481584:=()
def tw5283780904174564920:=()
def tw10461839169069033905:=()
def tw7679651016215685620:=()
def tw3710684195858945261:=()
def tw9345858654011300101:=()
def tw3463572044739974000:=()
def tw14160174237075585676:=()
def tw3990298851633150368:=()
def tw5046131227851425055:=()
def tw5889919310700176437:=()
def tw18407790887986219073:=()
def tw7010090593233958778:=()
def tw12142669563493318680:=()
def tw1797128197106097470:=()
def tw10649065972918934000:=()
def tw3482780646716553730:=()
def tw16792707289922904316:=()
def tw6993260383544069730:=()
def tw14576355294313320017:=()
def tw3989087259388315964:=()
def tw3576575857136044530:=()
def tw15859131685462546543:=()
def tw14788539042348051533:=()
def tw12916523753492036070:=()
def tw2017038574656727826:=()
def tw14003155360915640960:=()
def tw5592409736785743617:=()
def tw13710409141430389992:=()
def tw1702762608292127522:=()
def tw244125231890196672:=()
def tw4445790726749052120:=()
def tw9890543421278174091:=()
def tw2911048636405748430:=()
def tw18102552864169671034:=()
def tw10897297861059528798:=()
def tw6437009681348420733:=()
def tw15142060727766737183:=()
def tw3504545891404648642:=()
def tw11277123740027458120:=()
def tw2242115875899051724:=()
def tw8780775655382510610:=()
def tw9898709041922990255:=()
def tw9876477493297848201:=()
def tw4942536015306376646:=()
def tw7085904402403510356:=()
def tw17351769008821117211:=()
def tw2181297126744841594:=()
def tw4501392634039348615:=()
def tw12549354361563085541:=()
def tw36761671322961841:=()
def tw4690945677288021384:=()
def tw538601303208653875:=()
def tw11713851802834666952:=()
def tw9069991943467260573:=()
def tw17544618596495310388:=()
def tw543940121208117869:=()
def tw15841119738536867495:=()
def tw11598595889394788854:=()
def tw11383089599277285419:=()
def tw12784089826156847150:=()
def tw3532875834179454181:=()
def tw3490374920965505304:=()
def tw3936728982541324529:=()
def tw7142793164062552635:=()
def tw7216320682360889214:=()
def tw4065997559815691320:=()
def tw7192945199820823610:=()
def tw15762887425642010512:=()
def tw2870048783904320035:=()
def tw1909884240206285963:=()
def tw6641989921433432707:=()
def tw270329885591702566:=()
def tw729842235168281218:=()
def tw7076738702979011672:=()
def tw5366821662315627341:=()
def tw8243361816888175084:=()
def tw15730181533452153259:=()
def tw7964831868643190027:=()
def tw15777323511478624077:=()
def tw17094813896166060865:=()
def tw17724179481136315579:=()
def tw8931481074763872584:=()
def tw7944684571236921412:=()
def tw12766585138598431592:=()
def tw16682326340462012774:=()
end PySem.W.Fast
open PySem PySem.W PyProof.Rows
set_option maxRecDepth 100000 in
set_option maxHeartbeats 0 in
theorem PySem.Challenge.cw_fewjoins_k51_the_way_by_common_pairs_holds : PySem.Challenge.rw_fewjoins_k51_the_way_by_common_pairs.Holds := by
 w_on;o_law;k_head;(case hw=>w_witness2)
 k_fill
 refine L2.y0y (l:=PySem.Challenge.rw_fewjoins_k51_the_way_by_common_pairs) (n:=63) (k:=5) (x := "_law_script") (CX:=L2.CX0) (sp:=L2.d1d) rfl (by decide) rfl ⟨rfl,by decide,by decide⟩ (fun w h Y=>PySem.W.kIn_of Y) ?F ?S ?C
 case S=>exact fun K H a ns hl hO hS=>⟨a,ns,rfl,hS,hl,fun _=>rfl⟩
 case C=>exact fun H s e s' h=>h
 case F =>
  intro w mg fa h KX G hmg
  have d_givens_of:L2.DefN (L2.KOf KX) mg "givens_of" K51.e0n ["row"]:=by
   dsimp only[L2.KOf]
   refine' L2.d0g KX G ?a ?l ?c ?k (fun _ _ _ _ _ _ us hl=>match us,hl with | [_],_=>rfl)
   (case a=>k_is);(case l=>k_is);(case c=>k_is);(case k=>k_is)
  have d_refuse_joins:L2.DefN (L2.KOf KX) mg "refuse_joins" K51.c0u ["count"]:=by
   dsimp only[L2.KOf]
   refine' L2.d0g KX G ?a ?l ?c ?k (fun _ _ _ _ _ _ us hl=>match us,hl with | [_],_=>rfl)
   (case a=>k_is);(case l=>k_is);(case c=>k_is);(case k=>k_is)
  have d_pairs_net:L2.DefN (L2.KOf KX) mg "pairs_net" K51.b0n ["wish"]:=by
   dsimp only[L2.KOf]
   refine' L2.d0g KX G ?a ?l ?c ?k (fun _ _ _ _ _ _ us hl=>match us,hl with | [_],_=>rfl)
   (case a=>k_is);(case l=>k_is);(case c=>k_is);(case k=>k_is)
  have d_commonest:L2.DefN (L2.KOf KX) mg "commonest" K51.e0o ["held"]:=by
   dsimp only[L2.KOf]
   refine' L2.d0g KX G ?a ?l ?c ?k (fun _ _ _ _ _ _ us hl=>match us,hl with | [_],_=>rfl)
   (case a=>k_is);(case l=>k_is);(case c=>k_is);(case k=>k_is)
  have d_pairs_in:L2.DefN (L2.KOf KX) mg "pairs_in" K51.e0z ["things"]:=by
   dsimp only[L2.KOf]
   refine' L2.d0g KX G ?a ?l ?c ?k (fun _ _ _ _ _ _ us hl=>match us,hl with | [_],_=>rfl)
   (case a=>k_is);(case l=>k_is);(case c=>k_is);(case k=>k_is)
  have d_with_pair:L2.DefN (L2.KOf KX) mg "with_pair" K51.e0m ["things", "pair", "new"]:=by
   dsimp only[L2.KOf]
   refine' L2.d0g KX G ?a ?l ?c ?k (fun _ _ _ _ _ _ us hl=>match us,hl with | [_,_,_],_=>rfl)
   (case a=>k_is);(case l=>k_is);(case c=>k_is);(case k=>k_is)
  have d_law_tape:L2.DefN (L2.KOf KX) mg "_law_tape" K51.g0r ["_law_script"]:=by
   dsimp only[L2.KOf]
   refine' L2.d0g KX G ?a ?l ?c ?k (fun _ _ _ _ _ _ us hl=>match us,hl with | [_],_=>rfl)
   (case a=>k_is);(case l=>k_is);(case c=>k_is);(case k=>k_is)
  have d_law_draw:L2.DefN (L2.KOf KX) mg "_law_draw" K51.g0s ["_law_tape_here", "_law_many"]:=by
   dsimp only[L2.KOf]
   refine' L2.d0g KX G ?a ?l ?c ?k (fun _ _ _ _ _ _ us hl=>match us,hl with | [_,_],_=>rfl)
   (case a=>k_is);(case l=>k_is);(case c=>k_is);(case k=>k_is)
  have d_law_whole:L2.DefN (L2.KOf KX) mg "_law_whole" K51.f0m ["_law_found"]:=by
   dsimp only[L2.KOf]
   refine' L2.d0g KX G ?a ?l ?c ?k (fun _ _ _ _ _ _ us hl=>match us,hl with | [_],_=>rfl)
   (case a=>k_is);(case l=>k_is);(case c=>k_is);(case k=>k_is)
  have d_law_wish_rows:L2.DefN (L2.KOf KX) mg "_law_wish_rows" K51.d0f ["_law_tape_here", "_law_many", "_law_most"]:=by
   dsimp only[L2.KOf]
   refine' L2.d0g KX G ?a ?l ?c ?k (fun _ _ _ _ _ _ us hl=>match us,hl with | [_,_,_],_=>rfl)
   (case a=>k_is);(case l=>k_is);(case c=>k_is);(case k=>k_is)
  have d_law_great_rows:L2.DefN (L2.KOf KX) mg "_law_great_rows" K51.c0x ["_law_tape_here"]:=by
   dsimp only[L2.KOf]
   refine' L2.d0g KX G ?a ?l ?c ?k (fun _ _ _ _ _ _ us hl=>match us,hl with | [_],_=>rfl)
   (case a=>k_is);(case l=>k_is);(case c=>k_is);(case k=>k_is)
  have d_law_wish:L2.DefN (L2.KOf KX) mg "_law_wish" K51.g0p ["_law_tape_here"]:=by
   dsimp only[L2.KOf]
   refine' L2.d0g KX G ?a ?l ?c ?k (fun _ _ _ _ _ _ us hl=>match us,hl with | [_],_=>rfl)
   (case a=>k_is);(case l=>k_is);(case c=>k_is);(case k=>k_is)
  have d_law_is_tuples:L2.DefN (L2.KOf KX) mg "_law_is_tuples" K51.c0a ["_law_net"]:=by
   dsimp only[L2.KOf]
   refine' L2.d0g KX G ?a ?l ?c ?k (fun _ _ _ _ _ _ us hl=>match us,hl with | [_],_=>rfl)
   (case a=>k_is);(case l=>k_is);(case c=>k_is);(case k=>k_is)
  have d_law_alone:L2.DefN (L2.KOf KX) mg "_law_alone" K51.f0n ["_law_error", "_law_place"]:=by
   dsimp only[L2.KOf]
   refine' L2.d0g KX G ?a ?l ?c ?k (fun _ _ _ _ _ _ us hl=>match us,hl with | [_,_],_=>rfl)
   (case a=>k_is);(case l=>k_is);(case c=>k_is);(case k=>k_is)
  have d_law_best:L2.DefN (L2.KOf KX) mg "_law_best" K51.g0t ["_law_held"]:=by
   dsimp only[L2.KOf]
   refine' L2.d0g KX G ?a ?l ?c ?k (fun _ _ _ _ _ _ us hl=>match us,hl with | [_],_=>rfl)
   (case a=>k_is);(case l=>k_is);(case c=>k_is);(case k=>k_is)
  have d_law_put:L2.DefN (L2.KOf KX) mg "_law_put" K51.g0b ["_law_things", "_law_pair", "_law_thing"]:=by
   dsimp only[L2.KOf]
   refine' L2.d0g KX G ?a ?l ?c ?k (fun _ _ _ _ _ _ us hl=>match us,hl with | [_,_,_],_=>rfl)
   (case a=>k_is);(case l=>k_is);(case c=>k_is);(case k=>k_is)
  have d_law_due:L2.DefN (L2.KOf KX) mg "_law_due" K51.d0v ["_law_many", "_law_rows"]:=by
   dsimp only[L2.KOf]
   refine' L2.d0g KX G ?a ?l ?c ?k (fun _ _ _ _ _ _ us hl=>match us,hl with | [_,_],_=>rfl)
   (case a=>k_is);(case l=>k_is);(case c=>k_is);(case k=>k_is)
  have d_law_told:L2.DefN (L2.KOf KX) mg "_law_told" K51.g0q ["_law_wish_here"]:=by
   dsimp only[L2.KOf]
   refine' L2.d0g KX G ?a ?l ?c ?k (fun _ _ _ _ _ _ us hl=>match us,hl with | [_],_=>rfl)
   (case a=>k_is);(case l=>k_is);(case c=>k_is);(case k=>k_is)
  have d_law:L2.DefN (L2.KOf KX) mg "law" K51.t0t ["_law_script"]:=by
   dsimp only[L2.KOf]
   refine' L2.d0g KX G ?a ?l ?c ?k (fun _ _ _ _ _ _ us hl=>match us,hl with | [_],_=>rfl)
   (case a=>k_is);(case l=>k_is);(case c=>k_is);(case k=>k_is)
  have B:L2.BI mg:=by
   refine' L2.j1n KX G ?z_len ?z_range ?z_isinstance ?z_int ?z_bool ?z_list ?z_tuple ?z_str ?z_sum ?z_all ?z_max ?z_min ?z_sorted ?z_set ?z_zip ?z_enumerate ?z_reversed ?z_dict ?z_any ?z_abs
   (case z_len=>k_is);(case z_range=>k_is);(case z_isinstance=>k_is);(case z_int=>k_is);(case z_bool=>k_is);(case z_list=>k_is);(case z_tuple=>k_is);(case z_str=>k_is);(case z_sum=>k_is);(case z_all=>k_is);(case z_max=>k_is);(case z_min=>k_is);(case z_sorted=>k_is);(case z_set=>k_is);(case z_zip=>k_is);(case z_enumerate=>k_is);(case z_reversed=>k_is);(case z_dict=>k_is);(case z_any=>k_is);(case z_abs=>k_is)
  have c_MOST_JOINS:∃u,mg "MOST_JOINS" = some u/\L2.RelV (.int 132) u:=by
   refine' ⟨_,PySem.W.mg_of KX G ?a,?b⟩
   (case a=>k_is)
   (case b=>exact⟨_,rfl⟩)
  have xf:K51.XF (L2.KOf KX) mg:=by
   dsimp only[L2.KOf]
   refine' K51.XF.mk KX G ?f0 ?f1 ?f2 ?f3 ?f4 ?f5 ?f6 ?f7 ?f8 ?f9 ?f10 ?f11 ?f12 ?f13 ?f14 ?f15 ?f16_0 ?f16_1 ?f16_2 ?f16_3 ?f16_4 ?f16_5 ?f16_6 ?f16_7 ?f17 ?f18 ?f19 ?f20 ?f21 ?f22 ?f23 ?f24 ?f25 ?f26 ?f27 ?f28
   (case f0=>k_is);(case f1=>k_is);(case f2=>k_is);(case f3=>k_is);(case f4=>k_is);(case f5=>k_is);(case f6=>k_is);(case f7=>k_is);(case f8=>k_is);(case f9=>k_is);(case f10=>k_is);(case f11=>k_is);(case f12=>k_is);(case f13=>k_exc);(case f14=>k_exc);(case f15=>k_is);(case f16_0=>k_is);(case f16_1=>k_is);(case f16_2=>k_is);(case f16_3=>k_is);(case f16_4=>k_is);(case f16_5=>k_is);(case f16_6=>k_is);(case f16_7=>k_is);(case f17=>kit_is);(case f18=>kit_is);(case f19=>kit_is);(case f20=>kit_is);(case f21=>kit_is);(case f22=>kit_is);(case f23=>kit_is);(case f24=>kit_is);(case f25=>kit_is);(case f26=>kit_is);(case f27=>kit_is);(case f28=>kit_is)
  refine L2.e1d d_law hmg fun base=>?_
  exact K51.fin d_givens_of d_refuse_joins d_pairs_net d_commonest d_pairs_in d_with_pair d_law_tape d_law_draw d_law_whole d_law_wish_rows d_law_great_rows d_law_wish d_law_is_tuples d_law_alone d_law_best d_law_put d_law_due d_law_told d_law c_MOST_JOINS xf B
#print axioms PySem.Challenge.cw_fewjoins_k51_the_way_by_common_pairs_holds

